/-
  The walk of how trees grow, in the program: grown.
-/
import Derived.Test.YtimaidcjccakeaaGrowc
import Derived.Test.YtimaidcjccakeaaSide
namespace Go.Proofs.Ytimaidcjccakeaa
open Go.RowKit
set_option linter.unusedVariables false

theorem told_nil' {w W : World} (hb : Below w.heap.size w W) : Told w [] (.returned (.slice none 0 0)) W :=
  ⟨_, rfl, ⟨fun z hz => by simp at hz, ⟨rfl, Or.inl ⟨rfl, rfl⟩⟩⟩, hb⟩
theorem news_one {w : World} {g : Nat} {x : Int} (h : w.cell? ⟨g, 0, none⟩ = some (.int .i64 x)) : ∀ j u, [Value.int .i64 x][j]? = some u → w.cell? ((⟨g, 0, none⟩ : Addr).add j) = some u := by
  intro j u hu
  cases j with
  | zero =>
    simp at hu
    subst hu
    have e : (⟨g, 0, none⟩ : Addr).add 0 = ⟨g, 0, none⟩ := by unfold Addr.add; split <;> simp_all
    rw [e]; exact h
  | succ j => simp at hu
theorem own_fin2g {w w1 w2 : World} {v : Value} {zs : List Int} {x : Int} {g cap : Nat} (h0 : Below w.heap.size w w1) (ho : Own w1 w.heap.size v zs) (hx : -9223372036854775808 ≤ x ∧ x ≤ 9223372036854775807)
    (hown : w2.ownsRow w.heap.size 3 1 (.slice (some ⟨g, 0, none⟩) (zs.length + 1) cap) (zs.length + 1) (zs.map (Value.int .i64) ++ [.int .i64 x])) (hg : w1.grownBy w2 v.ownBlock) :
    Own w2 w.heap.size (.slice (some ⟨g, 0, none⟩) (zs.length + 1) cap) (zs ++ [x]) ∧ Below w.heap.size w w2 :=
  ⟨own_snoc ho.1 hx hown, h0.grown hg h0.size (fun k hk => own_block ho k hk)⟩

/-- One step down, whichever side it goes to. -/
theorem Tm.con_step {l : List Int} {m : Nat} (h1 : 1 ≤ m) (h2 : m < l.length) (h3 : l.length ≤ 40) : ∃ (c a : Nat) (lb : Bool) (part other : List Int), stepOf l.length ((m : Int) - 1) = .agg #[.int .i64 (c : Int), .int .i64 (a : Int), .bool lb] ∧ a + 1 ≤ c ∧ c < l.length ∧
    part = (if lb = true then l.take (Tm.sp l) else l.drop (Tm.sp l)) ∧ other = (if lb = true then l.drop (Tm.sp l) else l.take (Tm.sp l)) ∧ part.length = c ∧ ∀ al : Bool, Tm.con l m al = Tm.con part (a + 1) (al && lb) ++ [Tm.root other] := by
  have hs := Tm.sp_bd (l := l) (by omega) h3
  have hsi := Tm.sp_int (l := l) (by omega) h3
  by_cases hi : m ≤ Tm.sp l
  · refine ⟨Tm.sp l, m - 1, true, l.take (Tm.sp l), l.drop (Tm.sp l), ?_, by omega, by omega, rfl, rfl, by rw [List.length_take]; omega, fun al => ?_⟩
    · unfold stepOf; rw [if_pos (by omega), hsi]; rw [show ((m - 1 : Nat) : Int) = (m : Int) - 1 by omega]
    · rw [Tm.con_left h1 h2 h3 hi, show m - 1 + 1 = m by omega, Bool.and_true]
  · refine ⟨l.length - Tm.sp l, m - 1 - Tm.sp l, false, l.drop (Tm.sp l), l.take (Tm.sp l), ?_, by omega, by omega, rfl, rfl, by rw [List.length_drop], fun al => ?_⟩
    · unfold stepOf; rw [if_neg (by omega), hsi]; rw [show ((l.length - Tm.sp l : Nat) : Int) = (l.length : Int) - (Tm.sp l : Int) by omega, show ((m - 1 - Tm.sp l : Nat) : Int) = (m : Int) - 1 - (Tm.sp l : Int) by omega]
    · rw [Tm.con_right h1 h2 h3 hi, show m - 1 - Tm.sp l + 1 = m - Tm.sp l by omega, Bool.and_false]

set_option maxHeartbeats 4000000 in
theorem c200 (f : Nat) : ∀ (l : List Int) (m n : Nat) (al : Bool) (p : Nat) (w : World), l.length ≤ f → l.length = n → n ≤ 40 → 1 ≤ m → m ≤ n → Tm.okAll l = true → TreeAt (f + 1) w p l →
    Calls Try.prog 200 #[.pointer (some ⟨p, 0, none⟩), .agg #[.int .i64 (m : Int), .int .i64 (n : Int), .bool al]] w (Told w (Tm.con l m al)) := by
  induction f with
  | zero => intro l m n al p w hf hn h40 hm1 hmn hok ht; omega
  | succ f ih =>
    intro l m n al p w hf hn h40 hm1 hmn hok ht
    by_cases h1 : m = n
    · subst h1
      have hU := Tm.con_all (l := l) (m := m) (alone := al) hn.symm hm1
      have d0 : ((m : Int) == (m : Int)) = true := by rw [beq_iff_eq]
      cases al
      · rw [if_neg (by simp)] at hU
        rw [hU]
        have HX := hide (Tm.root_ok _ l (Nat.le_refl _) (by omega) hok)
        have HRt := hide ht.root
        clear ht hn hf ih hU hok
        go_enter Try.func200, Try.ntmps200
        go_wp2_with fail
        have hb0 : Below _ _ (w.alloc (.cells #[.int .i64 (m : Int), .int .i64 (m : Int), .bool false] 194)) := (below_alloc2 (Below.refl _ _))
        have bP : Box (w.alloc (.cells #[.int .i64 (m : Int), .int .i64 (m : Int), .bool false] 194)) (w.heap.size) [.int .i64 (m : Int), .int .i64 (m : Int), .bool false] := by
          have h := box_new w [.int .i64 (m : Int), .int .i64 (m : Int), .bool false] 194 (by simp [Value.oneCell'])
          exact h
        generalize (w.alloc (.cells #[.int .i64 (m : Int), .int .i64 (m : Int), .bool false] 194)) = W0 at *
        refine (c219 _ _ _ _).mono ?_
        rintro e w1 ⟨rfl, hb1⟩
        have bP := bP.below hb1
        have HB1 := hide (below_then hb0 hb1)
        clear hb0 hb1
        have p0 := bP.cell 0 rfl; have p1 := bP.cell 1 rfl; have p2 := bP.cell 2 rfl
        go_wp2_with fail
        refine (c219 _ _ _ _).mono ?_
        rintro e w2 ⟨rfl, hb2⟩
        have bP := bP.below hb2
        have HB2 := hide (below_then (unhide HB1) hb2)
        clear hb2 p0 p1 p2 HB1
        have p0 := bP.cell 0 rfl; have p1 := bP.cell 1 rfl; have p2 := bP.cell 2 rfl
        have hrt := cell_below (unhide HB2) (unhide HRt)
        go_wp2_with fail
        go_ret
        exact told_one (unhide HB2) (unhide HX)
      · rw [if_pos rfl] at hU
        rw [hU]
        clear ht hn hf ih hU hok
        go_enter Try.func200, Try.ntmps200
        go_wp2_with fail
        have hb0 : Below _ _ (w.alloc (.cells #[.int .i64 (m : Int), .int .i64 (m : Int), .bool true] 194)) := (below_alloc2 (Below.refl _ _))
        have bP : Box (w.alloc (.cells #[.int .i64 (m : Int), .int .i64 (m : Int), .bool true] 194)) (w.heap.size) [.int .i64 (m : Int), .int .i64 (m : Int), .bool true] := by
          have h := box_new w [.int .i64 (m : Int), .int .i64 (m : Int), .bool true] 194 (by simp [Value.oneCell'])
          exact h
        generalize (w.alloc (.cells #[.int .i64 (m : Int), .int .i64 (m : Int), .bool true] 194)) = W0 at *
        refine (c219 _ _ _ _).mono ?_
        rintro e w1 ⟨rfl, hb1⟩
        have bP := bP.below hb1
        have HB1 := hide (below_then hb0 hb1)
        clear hb0 hb1
        have p0 := bP.cell 0 rfl; have p1 := bP.cell 1 rfl; have p2 := bP.cell 2 rfl
        go_wp2_with fail
        go_ret
        exact told_nil' (unhide HB1)
    · have IH := hide ih
      have d0 : ((m : Int) == (n : Int)) = false := by rw [beq_eq_false_iff_ne]; omega
      obtain ⟨c, a, lb, part, other, hst, hac, hcn, hpart, hother, hpc, hU⟩ := Tm.con_step (l := l) (m := m) hm1 (by omega) (by omega)
      rw [hU]
      rw [hn] at hst hcn
      obtain ⟨-, -, hparts⟩ := ht
      obtain ⟨pl, pr, hp2, hp3, htl, htr⟩ := hparts (by omega)
      have HTP : Hid (TreeAt (f + 1) w (if lb = true then pl else pr) part) := by
        unfold Hid; rw [hpart]; cases lb
        · exact htr
        · exact htl
      have HTO : Hid (w.cell? ⟨if lb = true then pr else pl, 0, none⟩ = some (.int .i64 (Tm.root other))) := by
        unfold Hid; rw [hother]; cases lb
        · exact htl.root
        · exact htr.root
      have HOKP : Hid (Tm.okAll part = true) := by
        unfold Hid; rw [hpart]; cases lb
        · exact Tm.okAll_drop hok _
        · exact Tm.okAll_take hok _
      have hoo : Tm.okB (Tm.root other) = true := by
        rw [hother]; cases lb
        · exact Tm.root_ok _ _ (Nat.le_refl _) (by simp; omega) (Tm.okAll_take hok _)
        · exact Tm.root_ok _ _ (Nat.le_refl _) (by simp; omega) (Tm.okAll_drop hok _)
      have HX := hide (ok_fits hoo)
      have hpl := Tm.con_len7 (l := part) (m := a + 1) (al && lb) (by omega) (by omega) (by omega)
      have HPL := hide (And.intro hpl (And.intro hpc (And.intro hf hn)))
      have HST := hide hst
      have HP2 := hide hp2
      have HP3 := hide hp3
      clear ih hparts htl htr hp2 hp3 hst hpart hother hpc hpl hU hok hoo
      generalize Tm.root other = rt at *
      generalize hpp : (if lb = true then pl else pr) = pp at *
      generalize hpo : (if lb = true then pr else pl) = po at *
      have HPP := hide (And.intro hpp hpo)
      clear hpp hpo
      obtain ⟨i0, hi0, hz0, hz1, hz2⟩ := info_parts Try.info3
      go_enter Try.func200, Try.ntmps200
      go_wp2_with fail
      have hb0 : Below _ _ (w.alloc (.cells #[.int .i64 (m : Int), .int .i64 (n : Int), .bool al] 194)) := (below_alloc2 (Below.refl _ _))
      have bP : Box (w.alloc (.cells #[.int .i64 (m : Int), .int .i64 (n : Int), .bool al] 194)) (w.heap.size) [.int .i64 (m : Int), .int .i64 (n : Int), .bool al] := by
        have h := box_new w [.int .i64 (m : Int), .int .i64 (n : Int), .bool al] 194 (by simp [Value.oneCell'])
        exact h
      generalize (w.alloc (.cells #[.int .i64 (m : Int), .int .i64 (n : Int), .bool al] 194)) = W0 at *
      refine (c219 _ _ _ _).mono ?_
      rintro e w1 ⟨rfl, hb1⟩
      have bP := bP.below hb1
      have HB1 := hide (below_then hb0 hb1)
      clear hb0 hb1
      have p0 := bP.cell 0 rfl; have p1 := bP.cell 1 rfl; have p2 := bP.cell 2 rfl
      go_wp2_with fail
      refine (c219 _ _ _ _).mono ?_
      rintro e w2 ⟨rfl, hb2⟩
      have bP := bP.below hb2
      have HB2 := hide (below_then (unhide HB1) hb2)
      clear hb2 p0 p1 p2 HB1
      have p0 := bP.cell 0 rfl; have p1 := bP.cell 1 rfl; have p2 := bP.cell 2 rfl
      go_wp2_with fail
      refine (c220 m n c a al lb _ hm1 (by omega) h40 (by omega) (unhide HST)).mono ?_
      rintro e w3 ⟨rfl, hb3⟩
      have HB3 := hide (below_then (unhide HB2) hb3)
      clear p0 p1 p2 hb3 bP HB2
      generalize hal : (al && lb) = al' at *
      go_wp2_with fail
      have hb3' := unhide HB3
      have hb4 : Below _ _ ((w3.alloc (.cells #[.int .i64 (c : Int), .int .i64 (a : Int), .bool lb] 185)).alloc (.cells #[.int .i64 ((a : Int) + 1), .int .i64 (c : Int), .bool al'] 194)) := (below_alloc2 (below_alloc2 hb3'))
      have bS : Box ((w3.alloc (.cells #[.int .i64 (c : Int), .int .i64 (a : Int), .bool lb] 185)).alloc (.cells #[.int .i64 ((a : Int) + 1), .int .i64 (c : Int), .bool al'] 194)) (w3.heap.size) [.int .i64 (c : Int), .int .i64 (a : Int), .bool lb] := by
        have h := (box_new w3 [.int .i64 (c : Int), .int .i64 (a : Int), .bool lb] 185 (by simp [Value.oneCell'])).alloc (.cells #[.int .i64 ((a : Int) + 1), .int .i64 (c : Int), .bool al'] 194)
        exact h
      have bT : Box ((w3.alloc (.cells #[.int .i64 (c : Int), .int .i64 (a : Int), .bool lb] 185)).alloc (.cells #[.int .i64 ((a : Int) + 1), .int .i64 (c : Int), .bool al'] 194)) (w3.heap.size + 1) [.int .i64 ((a : Int) + 1), .int .i64 (c : Int), .bool al'] := by
        have h := box_new (w3.alloc (.cells #[.int .i64 (c : Int), .int .i64 (a : Int), .bool lb] 185)) [.int .i64 ((a : Int) + 1), .int .i64 (c : Int), .bool al'] 194 (by simp [Value.oneCell'])
        rwa [World.size_alloc] at h
      generalize ((w3.alloc (.cells #[.int .i64 (c : Int), .int .i64 (a : Int), .bool lb] 185)).alloc (.cells #[.int .i64 ((a : Int) + 1), .int .i64 (c : Int), .bool al'] 194)) = W at *
      have s0 := bS.cell 0 rfl; have s1 := bS.cell 1 rfl; have s2 := bS.cell 2 rfl
      have g2 := cell_below hb4 (unhide HP2)
      have g3 := cell_below hb4 (unhide HP3)
      refine (c198 p pl pr c a lb _ g2 g3).mono ?_
      rintro e w4 ⟨rfl, hb5⟩
      rw [(unhide HPP).1, (unhide HPP).2]
      have bT := bT.below hb5
      have hb6 := below_then hb4 hb5
      have HBc := hide hb6
      have HTP4 := hide ((unhide HTP).below hb6 _ _ _)
      have hpo := cell_below hb6 (unhide HTO)
      clear hb6 hb5 hb4 hb3' HB3 s0 s1 s2 g2 g3 bS HTP HTO HP2 HP3
      go_wp2_with fail
      have HI : Hid (∀ w' : World, TreeAt (f + 1) w' pp part → Calls Try.prog 200 #[.pointer (some ⟨pp, 0, none⟩), .agg #[.int .i64 ((a : Int) + 1), .int .i64 (c : Int), .bool al']] w' (Told w' (Tm.con part (a + 1) al'))) := by
        intro w' ht'
        have hh := unhide HPL
        exact (unhide IH) part (a + 1) c al' pp w' (by omega) (by omega) (by omega) (by omega) hac (unhide HOKP) ht'
      have hlen := (unhide HPL).1
      clear IH
      generalize hzs : Tm.con part (a + 1) al' = zs at *
      clear hzs hal
      refine wp_region_held_drew (S := fun w' => Below w4.heap.size w4 w') (by kernel_rfl) (below_drew w4) (fun hHeld => ?_)
      refine wpAnyH_take (i := 0) (oi := { dst := some 33, op := _, type := _, pos := _, after := _, guard := _ }) (v := ?_) rfl (by kernel_rfl) (by kernel_rfl) (by kernel_rfl) (fun _ _ _ h => h) (Or.inl ⟨by rfl, ?_⟩) (by assumption) ?_
      rotate_left
      · intro w hSw
        first | (go_simp; done) | (go_simp; with_reducible rfl)
      try simp only [Act.put, List.setIfInBounds_toArray, List.set_cons_zero, List.set_cons_succ]
      refine wpAnyH_take (i := 1) (oi := { dst := some 34, op := _, type := _, pos := _, after := _, guard := _ }) (v := ?_) rfl (by kernel_rfl) (by kernel_rfl) (by kernel_rfl) (fun _ _ _ h => h) (Or.inl ⟨by rfl, ?_⟩) (by assumption) ?_
      rotate_left
      · intro w hSw
        have hT := bT.below hSw; have q0 := hT.cell 0 rfl; have q1 := hT.cell 1 rfl; have q2 := hT.cell 2 rfl; have q3 := cell_below hSw hpo
        first | (go_simp; done) | (go_simp; with_reducible rfl)
      try simp only [Act.put, List.setIfInBounds_toArray, List.set_cons_zero, List.set_cons_succ]
      refine wpAnyH_take (i := 3) (oi := { dst := some 36, op := _, type := _, pos := _, after := _, guard := _ }) (v := ?_) rfl (by kernel_rfl) (by kernel_rfl) (by kernel_rfl) (fun _ _ _ h => h) (Or.inl ⟨by rfl, ?_⟩) (by assumption) ?_
      rotate_left
      · intro w hSw
        first | (go_simp; done) | (go_simp; with_reducible rfl)
      try simp only [Act.put, List.setIfInBounds_toArray, List.set_cons_zero, List.set_cons_succ]
      refine wpAnyH_take (i := 4) (oi := { dst := some 37, op := _, type := _, pos := _, after := _, guard := _ }) (v := ?_) rfl (by kernel_rfl) (by kernel_rfl) (by kernel_rfl) (fun _ _ _ h => h) (Or.inl ⟨by rfl, ?_⟩) (by assumption) ?_
      rotate_left
      · intro w hSw
        first | (go_simp; done) | (go_simp; with_reducible rfl)
      try simp only [Act.put, List.setIfInBounds_toArray, List.set_cons_zero, List.set_cons_succ]
      refine wpAnyH_take (i := 5) (oi := { dst := some 38, op := _, type := _, pos := _, after := _, guard := _ }) (v := ?_) rfl (by kernel_rfl) (by kernel_rfl) (by kernel_rfl) (fun _ _ _ h => h) (Or.inl ⟨by rfl, ?_⟩) (by assumption) ?_
      rotate_left
      · intro w hSw
        first | (go_simp; done) | (go_simp; with_reducible rfl)
      try simp only [Act.put, List.setIfInBounds_toArray, List.set_cons_zero, List.set_cons_succ]
      refine wpAnyH_take (i := 6) (oi := { dst := some 39, op := _, type := _, pos := _, after := _, guard := _ }) (v := ?_) rfl (by kernel_rfl) (by kernel_rfl) (by kernel_rfl) (fun _ _ _ h => h) (Or.inl ⟨by rfl, ?_⟩) (by assumption) ?_
      rotate_left
      · intro w hSw
        have hT := bT.below hSw; have q0 := hT.cell 0 rfl; have q1 := hT.cell 1 rfl; have q2 := hT.cell 2 rfl; have q3 := cell_below hSw hpo
        first | (go_simp; done) | (go_simp; with_reducible rfl)
      try simp only [Act.put, List.setIfInBounds_toArray, List.set_cons_zero, List.set_cons_succ]
      have HB := below_drew w4
      generalize w4.drew = V0 at *
      refine wpAnyH_ready (rs := [2, 7]) (by kernel_rfl) (by simp) ?_
      refine AllReadyH.cons (o := { dst := some 35, op := _, type := _, pos := _, after := _, guard := _ }) rfl (fun K hK => ?_) ?_
      · go_simp
        go_at_call 200
        refine (unhide HI _ ((unhide HTP4).below HB _ _ _)).mono ?_
        rintro e v1 ⟨v, rfl, hO, hbn⟩
        have hO := hO.mono HB.size
        have HB := below_then HB hbn
        clear hbn
        try go_wp2_with fail
        refine hK.out _ _ HB (fun hHeld => ?_)
        clear hK K hHeld
        try simp only [Act.put, List.setIfInBounds_toArray, List.set_cons_zero, List.set_cons_succ]
        refine wpAnyH_ready (rs := [7]) (by kernel_rfl) (by simp) ?_
        refine AllReadyH.cons (o := { dst := some 40, op := _, type := _, pos := _, after := _, guard := _ }) rfl (fun K hK => ?_) ?_
        · go_simp
          refine hK.out _ _ (below_alloc2 HB) (fun hHeld => ?_)
          clear hK K hHeld
          try simp only [Act.put, List.setIfInBounds_toArray, List.set_cons_zero, List.set_cons_succ]
          have hcb : (v1.alloc (.cells #[.int .i64 rt] 3)).cell? ⟨v1.heap.size, 0, none⟩ = some (.int .i64 rt) := by rw [World.cell?_alloc_new]; rfl
          have hO := hO.below ((Below.refl _ v1).alloc (Nat.le_refl _) (.cells #[.int .i64 rt] 3))
          have HB := below_alloc2 (o := .cells #[.int .i64 rt] 3) HB
          generalize v1.alloc (.cells #[.int .i64 rt] 3) = v2 at *
          generalize v1.heap.size = gb at *
          refine wpAnyH_ready (rs := [8]) (by kernel_rfl) (by simp) ?_
          refine AllReadyH.cons (o := { dst := some 41, op := _, type := _, pos := _, after := _, guard := _ }) rfl (fun K hK => ?_) AllReadyH.nil
          refine step_append_lies _ (by rfl) _ _ 28 (by rfl) w4.heap.size 3 i0 (.int .i64 0) 1 8 Try.underlying28 hi0 hz0 hz1 hz2 rfl (by decide) v _ _ (by rfl) hO.2 ⟨gb, 0, none⟩ 1 1 [.int .i64 rt] (by rfl) rfl (news_one hcb) (by simp [Value.oneCell']) (by decide) (by unfold maxLen; omega) (by omega) HB.size _ rfl ?_
          intro g cp w5 hown5 hgrow5 hat5 hlt5
          have hfin := own_fin2g HB hO (unhide HX) hown5 hgrow5
          have HB5 := hfin.2
          refine hK.out _ _ HB5 (fun hHeld => ?_)
          clear hK K hHeld
          try simp only [Act.put, List.setIfInBounds_toArray, List.set_cons_zero, List.set_cons_succ]
          refine wpAnyH_take (i := 9) (oi := { dst := some 4, op := _, type := _, pos := _, after := _, guard := _ }) (v := ?_) rfl (by kernel_rfl) (by kernel_rfl) (by kernel_rfl) (fun _ _ _ h => h) (Or.inl ⟨by rfl, ?_⟩) (by assumption) ?_
          rotate_left
          · intro w hSw
            first | (go_simp; done) | (go_simp; with_reducible rfl)
          try simp only [Act.put, List.setIfInBounds_toArray, List.set_cons_zero, List.set_cons_succ]
          refine wpAnyH_done (by kernel_rfl) ?_ _
          have HF := hide hfin
          clear hfin HB5 HB hO hown5 hgrow5 hat5 hcb
          go_wp2_with fail
          go_ret
          exact ⟨_, rfl, (unhide HF).1.mono (unhide HBc).size, below_then (unhide HBc) (unhide HF).2⟩
        exact AllReadyH.nil
      refine AllReadyH.cons (o := { dst := some 40, op := _, type := _, pos := _, after := _, guard := _ }) rfl (fun K hK => ?_) ?_
      · go_simp
        refine hK.out _ _ (below_alloc2 HB) (fun hHeld => ?_)
        clear hK K hHeld
        try simp only [Act.put, List.setIfInBounds_toArray, List.set_cons_zero, List.set_cons_succ]
        have hcb : (V0.alloc (.cells #[.int .i64 rt] 3)).cell? ⟨V0.heap.size, 0, none⟩ = some (.int .i64 rt) := by rw [World.cell?_alloc_new]; rfl
        have HB := below_alloc2 (o := .cells #[.int .i64 rt] 3) HB
        generalize V0.alloc (.cells #[.int .i64 rt] 3) = v3 at *
        generalize V0.heap.size = gb at *
        refine wpAnyH_ready (rs := [2]) (by kernel_rfl) (by simp) ?_
        refine AllReadyH.cons (o := { dst := some 35, op := _, type := _, pos := _, after := _, guard := _ }) rfl (fun K hK => ?_) ?_
        · go_simp
          go_at_call 200
          refine (unhide HI _ ((unhide HTP4).below HB _ _ _)).mono ?_
          rintro e v4 ⟨v, rfl, hO, hbn⟩
          have hO := hO.mono HB.size
          have HB := below_then HB hbn
          have hcb := cell_below hbn hcb
          clear hbn
          try go_wp2_with fail
          refine hK.out _ _ HB (fun hHeld => ?_)
          clear hK K hHeld
          try simp only [Act.put, List.setIfInBounds_toArray, List.set_cons_zero, List.set_cons_succ]
          refine wpAnyH_ready (rs := [8]) (by kernel_rfl) (by simp) ?_
          refine AllReadyH.cons (o := { dst := some 41, op := _, type := _, pos := _, after := _, guard := _ }) rfl (fun K hK => ?_) AllReadyH.nil
          refine step_append_lies _ (by rfl) _ _ 28 (by rfl) w4.heap.size 3 i0 (.int .i64 0) 1 8 Try.underlying28 hi0 hz0 hz1 hz2 rfl (by decide) v _ _ (by rfl) hO.2 ⟨gb, 0, none⟩ 1 1 [.int .i64 rt] (by rfl) rfl (news_one hcb) (by simp [Value.oneCell']) (by decide) (by unfold maxLen; omega) (by omega) HB.size _ rfl ?_
          intro g cp w5 hown5 hgrow5 hat5 hlt5
          have hfin := own_fin2g HB hO (unhide HX) hown5 hgrow5
          have HB5 := hfin.2
          refine hK.out _ _ HB5 (fun hHeld => ?_)
          clear hK K hHeld
          try simp only [Act.put, List.setIfInBounds_toArray, List.set_cons_zero, List.set_cons_succ]
          refine wpAnyH_take (i := 9) (oi := { dst := some 4, op := _, type := _, pos := _, after := _, guard := _ }) (v := ?_) rfl (by kernel_rfl) (by kernel_rfl) (by kernel_rfl) (fun _ _ _ h => h) (Or.inl ⟨by rfl, ?_⟩) (by assumption) ?_
          rotate_left
          · intro w hSw
            first | (go_simp; done) | (go_simp; with_reducible rfl)
          try simp only [Act.put, List.setIfInBounds_toArray, List.set_cons_zero, List.set_cons_succ]
          refine wpAnyH_done (by kernel_rfl) ?_ _
          have HF := hide hfin
          clear hfin HB5 HB hO hown5 hgrow5 hat5 hcb
          go_wp2_with fail
          go_ret
          exact ⟨_, rfl, (unhide HF).1.mono (unhide HBc).size, below_then (unhide HBc) (unhide HF).2⟩
        exact AllReadyH.nil
      exact AllReadyH.nil
end Go.Proofs.Ytimaidcjccakeaa
