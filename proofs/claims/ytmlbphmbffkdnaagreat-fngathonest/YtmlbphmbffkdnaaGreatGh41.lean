/-
  Texts of the proof, what it needs of them: Clasj.
-/
import Derived.Test.YtmlbphmbffkdnaaGreatGh40
namespace Go.Proofs.YtmlbphmbffkdnaaGreat
open Go.RowKit
set_option maxRecDepth 100000
set_option linter.unusedVariables false

theorem below_alloc1 {A W : World} {o : Obj} (h : Below A.heap.size A W) : Below A.heap.size A (W.alloc o) := h.alloc h.size _
/-- A region that ends as told, whatever the order: what it has left in two new blocks is all that is asked on. -/
theorem wp_mid2 {P : Program} {c : Code} {Q : Exit → Act → World → Prop} {A : Act} {w : World} (F : Nat → Nat → World → Prop) (upd : Act → Nat → Nat → Act)
    (h1 : c.wp P (fun e a' w' => e = .normal ∧ ∃ g1 g2, a' = upd A g1 g2 ∧ F g1 g2 w') A w) (h2 : ∀ g1 g2 w', F g1 g2 w' → Q .normal (upd A g1 g2) w') : c.wp P Q A w :=
  Code.wp_mono (fun e a' w' ⟨he, g1, g2, ha, hf⟩ => by subst he ha; exact h2 g1 g2 w' hf) h1
/-- a block of two numbers that the call may write -/
def Pair2 (w : World) (g : Nat) (a b : Int) : Prop :=
  w.cell? ⟨g, 0, none⟩ = some (.int .i64 a) ∧ w.cell? ⟨g, 1, none⟩ = some (.int .i64 b) ∧ w.frozen? ⟨g, 0, none⟩ = false ∧ w.frozen? ⟨g, 1, none⟩ = false
theorem Pair2.lt {w : World} {g : Nat} {a b : Int} (h : Pair2 w g a b) : g < w.heap.size := World.block_lt_of_cell? w _ h.1
theorem Pair2.below {W w : World} {g : Nat} {a b : Int} (h : Pair2 W g a b) (hb : Below W.heap.size W w) : Pair2 w g a b :=
  ⟨cell_below hb h.1, cell_below hb h.2.1, (hb.frozen (p := ⟨g, 0, none⟩) h.lt).trans h.2.2.1, (hb.frozen (p := ⟨g, 1, none⟩) h.lt).trans h.2.2.2⟩
theorem Pair2.alloc {W : World} {g : Nat} {a b : Int} (h : Pair2 W g a b) (o : Obj) : Pair2 (W.alloc o) g a b := h.below ((Below.refl _ _).alloc (Nat.le_refl _) _)
theorem fresh_new (W : World) (t : Nat) : Pair2 (W.alloc (.cells #[.int .i64 0, .int .i64 0] t)) W.heap.size 0 0 := by
  refine ⟨?_, ?_, ?_, ?_⟩
  · rw [World.cell?_alloc_new]; rfl
  · rw [World.cell?_alloc_new]; rfl
  · simp
  · simp

theorem Pair2.store {w : World} {g : Nat} {a b : Int} (h : Pair2 w g a b) (x y : Int) : Pair2 ((w.setCell ⟨g, 0, none⟩ (.int .i64 x)).setCell ⟨g, 1, none⟩ (.int .i64 y)) g x y := by
  obtain ⟨h0, h1, h2, h3⟩ := h
  have e1 : (w.setCell ⟨g, 0, none⟩ (.int .i64 x)).cell? ⟨g, 1, none⟩ = some (.int .i64 b) := (World.cell?_setCell_other _ _ _ _ (by simp)).trans h1
  refine ⟨?_, World.cell?_setCell_same _ _ _ e1, by simpa using h2, by simpa using h3⟩
  exact (World.cell?_setCell_other _ _ _ _ (by simp)).trans (World.cell?_setCell_same _ _ _ h0)
theorem Pair2.other {w : World} {g g' : Nat} {a b : Int} (h : Pair2 w g a b) (hne : g ≠ g') (x y : Int) : Pair2 ((w.setCell ⟨g', 0, none⟩ (.int .i64 x)).setCell ⟨g', 1, none⟩ (.int .i64 y)) g a b := by
  obtain ⟨h0, h1, h2, h3⟩ := h
  refine ⟨?_, ?_, by simpa using h2, by simpa using h3⟩
  · rw [World.cell?_setCell_other _ _ _ _ (by first | (simp; done) | (intro h; cases h; exact hne rfl)), World.cell?_setCell_other _ _ _ _ (by first | (simp; done) | (intro h; cases h; exact hne rfl))]; exact h0
  · rw [World.cell?_setCell_other _ _ _ _ (by first | (simp; done) | (intro h; cases h; exact hne rfl)), World.cell?_setCell_other _ _ _ _ (by first | (simp; done) | (intro h; cases h; exact hne rfl))]; exact h1
theorem below_store2 {A W : World} {g : Nat} {a b : Int} (h : Below A.heap.size A W) (hg : A.heap.size ≤ g) : Below A.heap.size A ((W.setCell ⟨g, 0, none⟩ (.int .i64 a)).setCell ⟨g, 1, none⟩ (.int .i64 b)) :=
  (h.setCell (p := ⟨g, 0, none⟩) hg _).setCell (p := ⟨g, 1, none⟩) hg _

/-- One step down, whichever side it goes to. -/
theorem Tm.clash_step {f : Nat} {l : List Int} {i leaf : Int} {ps : List Int} {k : Nat} (h : Tm.Inv l i leaf ps) (hk : ps.length = k + 1) :
    ∃ (c a : Nat) (lb : Bool) (part : List Int) (x : Int), stepOf l.length i = .agg #[.int .i64 (c : Int), .int .i64 (a : Int), .bool lb] ∧ part = (if lb = true then l.take (Tm.sp l) else l.drop (Tm.sp l)) ∧ part.length = c ∧ c < l.length ∧ 1 ≤ c ∧ a < c ∧
      Tm.up c a leaf (ps.take k) = some x ∧ Tm.okB x = true ∧ (x = (if lb = true then Tm.root (l.take (Tm.sp l)) else Tm.root (l.drop (Tm.sp l))) → Tm.Inv part a leaf (ps.take k)) ∧
      Tm.clash (f + 1) l i leaf ps = if (if lb = true then x else ps.getD k 0) = Tm.root (l.take (Tm.sp l)) ∧ (if lb = true then ps.getD k 0 else x) = Tm.root (l.drop (Tm.sp l)) then Tm.clash f part a leaf (ps.take k) else [if lb = true then x else ps.getD k 0, if lb = true then ps.getD k 0 else x, Tm.root (l.take (Tm.sp l)), Tm.root (l.drop (Tm.sp l))] := by
  have h2 := h.two
  obtain ⟨s1, s2, s3⟩ := Tm.sp_bd h2 h.len
  have hsi := Tm.sp_int h2 h.len
  have i0 := h.i0
  have i1 := h.i1
  have hk1 : ps.length - 1 = k := by omega
  obtain ⟨iN, rfl⟩ := Int.eq_ofNat_of_zero_le i0
  by_cases hi : (iN : Int) < Tm.split l.length
  · obtain ⟨x, hx, hxo, -, hinv'⟩ := h.left hk hi
    refine ⟨Tm.sp l, iN, true, l.take (Tm.sp l), x, ?_, rfl, by rw [List.length_take]; omega, s2, s1, by omega, by rw [← hsi]; exact hx, hxo, hinv', ?_⟩
    · unfold stepOf; rw [if_pos hi, hsi]
    · rw [Tm.clash, hk1, if_pos hi, hx]; rfl
  · obtain ⟨x, hx, hxo, -, hinv'⟩ := h.right hk hi
    have e1 : (l.length : Int) - Tm.split l.length = ((l.length - Tm.sp l : Nat) : Int) := by omega
    have e2 : (iN : Int) - Tm.split l.length = ((iN - Tm.sp l : Nat) : Int) := by omega
    refine ⟨l.length - Tm.sp l, iN - Tm.sp l, false, l.drop (Tm.sp l), x, ?_, rfl, by rw [List.length_drop], by omega, by omega, by omega, by rw [← e1, ← e2]; exact hx, hxo, by rw [← e2]; exact hinv', ?_⟩
    · unfold stepOf; rw [if_neg hi, e1, e2]
    · rw [Tm.clash, hk1, if_neg hi, hx, ← e2]; rfl

set_option maxHeartbeats 4000000 in
theorem c65 (f : Nat) : ∀ (l ps : List Int) (i leaf : Int) (p : Nat) (bo : Option Addr) (m cap' : Nat) (w : World), l.length ≤ f → ps.length = m → m ≤ cap' → Tm.Inv l i leaf ps → TreeAt (f + 1) w p l → Row w bo ps →
    Calls Tryz.prog 65 #[.pointer (some ⟨p, 0, none⟩), .int .i64 i, .int .i64 leaf, .slice bo m cap'] w (Told w (Tm.clash f l i leaf ps)) := by
  induction f with
  | zero => intro l ps i leaf p bo m cap' w hf hm hcap' hinv ht hs; have := hinv.two; omega
  | succ f ih =>
    intro l ps i leaf p bo m cap' w hf hm hcap' hinv ht hs
    have IH := hide ih
    have h2 := hinv.two
    obtain ⟨k, hk⟩ := hinv.some
    have hmk : m = k + 1 := by omega
    subst hmk
    have h40 := hinv.len
    have i0 := hinv.i0
    have i1 := hinv.i1
    have hp40 := hinv.pl
    obtain ⟨b2, off2, rfl, hd⟩ := hs.2 (by intro e; subst e; simp at hk)
    have HC := hide (hd k (by omega))
    have HPT := hide (hs.take k)
    have hpl : (ps.take k).length = k := by rw [List.length_take]; omega
    have HPL := hide hpl
    have hpo := Tm.okAll_at hinv.po (k := k) (by omega)
    have HAI := hide (Tm.okAll_take hinv.po k)
    have HLF := hide hinv.lf
    obtain ⟨s1, s2, s3⟩ := Tm.sp_bd h2 h40
    have hrt := Tm.root_ok _ (l.take (Tm.sp l)) (Nat.le_refl _) (by rw [List.length_take]; omega) (Tm.okAll_take hinv.ok (Tm.sp l))
    have hrd := Tm.root_ok _ (l.drop (Tm.sp l)) (Nat.le_refl _) (by rw [List.length_drop]; omega) (Tm.okAll_drop hinv.ok (Tm.sp l))
    obtain ⟨-, hcount, hparts⟩ := ht
    obtain ⟨pl, pr, hp2, hp3, htl', htr'⟩ := hparts h2
    have HP2 := hide hp2
    have HP3 := hide hp3
    have HXL := hide htl'.root
    have HXR := hide htr'.root
    have hd2 : decide ((l.length : Int) < 2) = false := by rw [decide_eq_false_iff_not]; omega
    have hlz : (((k + 1 : Nat) : Int) == 0) = false := by rw [beq_eq_false_iff_ne]; omega
    obtain ⟨c, a, lb, part, x, hst, hpart, hpc, hcl, hc1, hac, hx, hxo, hinv', hans⟩ := Tm.clash_step (f := f) hinv hk
    have HTP : Hid (TreeAt (f + 1) w (if lb = true then pl else pr) part) := by
      unfold Hid; rw [hpart]; cases lb
      · exact htr'
      · exact htl'
    rw [hans]
    have HS := hide hst
    have HI := hide hinv'
    have HX := hide hx
    have Hho := hide (And.intro hxo (And.intro hpo (And.intro hrt hrd)))
    have HPC := hide (And.intro hpc hf)
    clear ih hd hs htl' htr' hp2 hp3 hparts hans hst hinv' hx hxo hpo hrt hrd hpl hpart hpc hinv s1 s2 s3
    generalize Tm.root (l.take (Tm.sp l)) = rt at *
    generalize Tm.root (l.drop (Tm.sp l)) = rd at *
    generalize ps.getD k 0 = y at *
    generalize ps.take k = init at *
    generalize hu1 : (if lb = true then x else y) = u1 at *
    generalize hu2 : (if lb = true then y else x) = u2 at *
    generalize hpp : (if lb = true then pl else pr) = pp at *
    generalize hans : (if u1 = rt ∧ u2 = rd then Tm.clash f part a leaf init else [u1, u2, rt, rd]) = ans
    have HA := hide hans
    have HU1 := hide hu1
    have HU2 := hide hu2
    have HPP := hide hpp
    clear hans hu1 hu2 hpp
    go_enter Tryz.func65, Tryz.ntmps65
    go_wp2_with fail
    refine (c98 _ i _ (by omega) (by omega) i0 i1).mono ?_
    rintro e w1 ⟨rfl, hb1⟩
    rw [unhide HS]
    have hbW : Below w.heap.size w (w1.alloc (.cells #[.int .i64 (c : Int), .int .i64 (a : Int), .bool lb] 120)) := hb1.alloc hb1.size _
    have HBW := hide hbW
    have HPW := hide ((unhide HPT).below hbW (Nat.le_refl _))
    have HCW := hide (cell_below hbW (unhide HC))
    have HP2W := hide (cell_below hbW (unhide HP2))
    have HP3W := hide (cell_below hbW (unhide HP3))
    have HXLW := hide (cell_below hbW (unhide HXL))
    have HXRW := hide (cell_below hbW (unhide HXR))
    have HTPW := hide ((unhide HTP).below hbW _ _ _)
    have H0 : Hid ((w1.alloc (.cells #[.int .i64 (c : Int), .int .i64 (a : Int), .bool lb] 120)).cell? ⟨w1.heap.size, 0, none⟩ = some (.int .i64 (c : Int))) := by unfold Hid; rw [World.cell?_alloc_new]; rfl
    have H1 : Hid ((w1.alloc (.cells #[.int .i64 (c : Int), .int .i64 (a : Int), .bool lb] 120)).cell? ⟨w1.heap.size, 1, none⟩ = some (.int .i64 (a : Int))) := by unfold Hid; rw [World.cell?_alloc_new]; rfl
    have H2 : Hid ((w1.alloc (.cells #[.int .i64 (c : Int), .int .i64 (a : Int), .bool lb] 120)).cell? ⟨w1.heap.size, 2, none⟩ = some (.bool lb)) := by unfold Hid; rw [World.cell?_alloc_new]; rfl
    clear hb1 hbW HPT HC HP2 HP3 HXL HXR HTP hcount
    go_wp2_with fail
    generalize w1.alloc (.cells #[.int .i64 (c : Int), .int .i64 (a : Int), .bool lb] 120) = W at *
    generalize w1.heap.size = B at *
    have h0 := unhide H0
    have h1 := unhide H1
    have hW0 := below_drew W
    have k0 : (0 : Int) ≤ (k : Int) := by omega
    have k1 : (k : Int) ≤ (cap' : Int) := by omega
    go_region_held3 (fun w' => w'.cell? ⟨B, 0, none⟩ = some (.int .i64 (c : Int)) ∧ w'.cell? ⟨B, 1, none⟩ = some (.int .i64 (a : Int)) ∧ Below W.heap.size W w') (refine ⟨cell_below ?_ h0, cell_below ?_ h1, ?_⟩ <;> assumption) ((go_at_call 99; refine (c99 k init _ _ leaf _ k cap' _ (unhide HPL) (unhide HPL) (by omega) (by omega) (by omega) (by omega) (by omega) (by omega) (unhide HLF) (unhide HAI) (by exact (unhide HPW).drew)).mono ?_; rintro e w2 ⟨rfl, hb2⟩; have hb3 := below_undrew hb2))
    rw [unhide HX]
    simp only [Option.getD_some, Option.isSome_some]
    have HBf := hide (below_then (unhide HBW) hb3)
    have g0 := cell_below hb3 h0
    have g1 := cell_below hb3 h1
    have g2 := cell_below hb3 (unhide H2)
    have g3 := cell_below hb3 (unhide HCW)
    have g4 := cell_below hb3 (unhide HP2W)
    have g5 := cell_below hb3 (unhide HP3W)
    have g6 := cell_below hb3 (unhide HXLW)
    have g7 := cell_below hb3 (unhide HXRW)
    have HTP2 := hide ((unhide HTPW).below hb3 _ _ _)
    have HPT2 := hide ((unhide HPW).below hb3 (Nat.le_refl _))
    clear hb2 hb3 hW0 h0 h1 H0 H1 H2 HCW HBW HPW HP2W HP3W HXLW HXRW HTPW HX
    go_wp2_with fail
    have hkk : (k : Int) < (k : Int) + 1 := by omega
    refine wp_mid2 (fun ga gb w' => Below w2.heap.size w2 w' ∧ Pair2 w' ga u1 u2 ∧ Pair2 w' gb rt rd) (fun A ga gb => A.put (some 48) (.agg #[.int .i64 (c : Int), .int .i64 (a : Int), .bool lb]) |>.put (some 49) (.int .i64 x) |>.put (some 50) (.slice (some ⟨b2, off2, none⟩) (k + 1) cap') |>.put (some 51) (.int .i64 (k : Int)) |>.put (some 52) (.pointer (some ⟨b2, off2 + k, none⟩)) |>.put (some 53) (.int .i64 y) |>.put (some 54) (.agg #[.int .i64 u1, .int .i64 u2]) |>.put (some 55) (.pointer (some ⟨p, 0, none⟩)) |>.put (some 56) (.agg #[.int .i64 rt, .int .i64 rd]) |>.put (some 13) (.pointer (some ⟨ga, 0, none⟩)) |>.put (some 14) (.pointer (some ⟨gb, 0, none⟩))) ?_ ?_
    · refine wp_region_held_drew (S := fun w' => Below w2.heap.size w2 w') (by kernel_rfl) (below_drew w2) (fun hHeld => ?_)
      have HB := below_drew w2
      refine wpAnyH_take (i := 0) (oi := { dst := some 48, op := _, type := _, pos := _, after := _, guard := _ }) (v := ?_) rfl (by kernel_rfl) (by kernel_rfl) (by kernel_rfl) (fun _ _ _ h => by cases h.1) (Or.inl ⟨by rfl, ?_⟩) (by assumption) ?_
      rotate_left
      · intro w hSw
        have q0 := cell_below hSw g0; have q1 := cell_below hSw g1; have q2 := cell_below hSw g2; have q3 := cell_below hSw g3
        first | (go_simp; done) | (go_simp; with_reducible rfl)
      try simp only [Act.put, List.setIfInBounds_toArray, List.set_cons_zero, List.set_cons_succ]
      refine wpAnyH_take (i := 1) (oi := { dst := some 49, op := _, type := _, pos := _, after := _, guard := _ }) (v := ?_) rfl (by kernel_rfl) (by kernel_rfl) (by kernel_rfl) (fun _ _ _ h => by cases h.1) (Or.inl ⟨by rfl, ?_⟩) (by assumption) ?_
      rotate_left
      · intro w hSw
        first | (go_simp; done) | (go_simp; with_reducible rfl)
      try simp only [Act.put, List.setIfInBounds_toArray, List.set_cons_zero, List.set_cons_succ]
      refine wpAnyH_take (i := 2) (oi := { dst := some 50, op := _, type := _, pos := _, after := _, guard := _ }) (v := ?_) rfl (by kernel_rfl) (by kernel_rfl) (by kernel_rfl) (fun _ _ _ h => by cases h.1) (Or.inl ⟨by rfl, ?_⟩) (by assumption) ?_
      rotate_left
      · intro w hSw
        first | (go_simp; done) | (go_simp; with_reducible rfl)
      try simp only [Act.put, List.setIfInBounds_toArray, List.set_cons_zero, List.set_cons_succ]
      refine wpAnyH_take (i := 3) (oi := { dst := some 51, op := _, type := _, pos := _, after := _, guard := _ }) (v := ?_) rfl (by kernel_rfl) (by kernel_rfl) (by kernel_rfl) (fun _ _ _ h => by cases h.1) (Or.inl ⟨by rfl, ?_⟩) (by assumption) ?_
      rotate_left
      · intro w hSw
        first | (go_simp; done) | (go_simp; with_reducible rfl)
      try simp only [Act.put, List.setIfInBounds_toArray, List.set_cons_zero, List.set_cons_succ]
      refine wpAnyH_take (i := 4) (oi := { dst := some 52, op := _, type := _, pos := _, after := _, guard := _ }) (v := ?_) rfl (by kernel_rfl) (by kernel_rfl) (by kernel_rfl) (fun _ _ _ h => by cases h.1) (Or.inl ⟨by rfl, ?_⟩) (by assumption) ?_
      rotate_left
      · intro w hSw
        first | (go_simp; done) | (go_simp; with_reducible rfl)
      try simp only [Act.put, List.setIfInBounds_toArray, List.set_cons_zero, List.set_cons_succ]
      refine wpAnyH_take (i := 5) (oi := { dst := some 53, op := _, type := _, pos := _, after := _, guard := _ }) (v := ?_) rfl (by kernel_rfl) (by kernel_rfl) (by kernel_rfl) (fun _ _ _ h => by cases h.1) (Or.inl ⟨by rfl, ?_⟩) (by assumption) ?_
      rotate_left
      · intro w hSw
        have q0 := cell_below hSw g0; have q1 := cell_below hSw g1; have q2 := cell_below hSw g2; have q3 := cell_below hSw g3
        first | (go_simp; done) | (go_simp; with_reducible rfl)
      try simp only [Act.put, List.setIfInBounds_toArray, List.set_cons_zero, List.set_cons_succ]
      refine wpAnyH_take (i := 7) (oi := { dst := some 55, op := _, type := _, pos := _, after := _, guard := _ }) (v := ?_) rfl (by kernel_rfl) (by kernel_rfl) (by kernel_rfl) (fun _ _ _ h => by cases h.1) (Or.inl ⟨by rfl, ?_⟩) (by assumption) ?_
      rotate_left
      · intro w hSw
        first | (go_simp; done) | (go_simp; with_reducible rfl)
      try simp only [Act.put, List.setIfInBounds_toArray, List.set_cons_zero, List.set_cons_succ]
      generalize w2.drew = V0 at *
      refine wpAnyH_ready (rs := [6, 9, 10]) (by kernel_rfl) (by simp) ?_
      refine AllReadyH.cons (o := { dst := some 54, op := _, type := _, pos := _, after := _, guard := _ }) rfl (fun K hK => ?_) ?_
      · go_simp
        go_at_call 100
        refine (c100 _ _ _ _ _ _).mono ?_
        rintro e v1 ⟨rfl, hbn⟩
        rw [unhide HU1, unhide HU2]
        have HB := below_then HB hbn
        clear hbn
        try go_wp2_with fail
        refine hK.out _ _ HB (fun hHeld => ?_)
        clear hK K hHeld
        try simp only [Act.put, List.setIfInBounds_toArray, List.set_cons_zero, List.set_cons_succ]
        refine wpAnyH_ready (rs := [8, 9, 10]) (by kernel_rfl) (by simp) ?_
        refine AllReadyH.cons (o := { dst := some 56, op := _, type := _, pos := _, after := _, guard := _ }) rfl (fun K hK => ?_) ?_
        · go_simp
          go_at_call 96
          refine (c96 p pl pr rt rd _ (cell_below HB g4) (cell_below HB g5) (cell_below HB g6) (cell_below HB g7)).mono ?_
          rintro e v2 ⟨rfl, hbn⟩
          have HB := below_then HB hbn
          clear hbn
          try go_wp2_with fail
          refine hK.out _ _ HB (fun hHeld => ?_)
          clear hK K hHeld
          try simp only [Act.put, List.setIfInBounds_toArray, List.set_cons_zero, List.set_cons_succ]
          refine wpAnyH_ready (rs := [9, 10]) (by kernel_rfl) (by simp) ?_
          refine AllReadyH.cons (o := { dst := some 13, op := _, type := _, pos := _, after := _, guard := _ }) rfl (fun K hK => ?_) ?_
          · go_simp
            refine hK.out _ _ (below_alloc1 HB) (fun hHeld => ?_)
            clear hK K hHeld
            try simp only [Act.put, List.setIfInBounds_toArray, List.set_cons_zero, List.set_cons_succ]
            have fA := fresh_new v2 116
            have hge := HB.size
            have HB := below_alloc1 (o := .cells #[.int .i64 0, .int .i64 0] 116) HB
            try simp only [World.alloc_drew] at *
            generalize v2.alloc (.cells #[.int .i64 0, .int .i64 0] 116) = v3 at *
            generalize v2.heap.size = ga at *
            have hga := hge
            clear hge
            refine wpAnyH_ready (rs := [10]) (by kernel_rfl) (by simp) ?_
            refine AllReadyH.cons (o := { dst := some 14, op := _, type := _, pos := _, after := _, guard := _ }) rfl (fun K hK => ?_) ?_
            · go_simp
              refine hK.out _ _ (below_alloc1 HB) (fun hHeld => ?_)
              clear hK K hHeld
              try simp only [Act.put, List.setIfInBounds_toArray, List.set_cons_zero, List.set_cons_succ]
              have fB := fresh_new v3 116
              have hge := HB.size
              have hne : ga ≠ v3.heap.size := Nat.ne_of_lt fA.lt
              have fA := fA.alloc (.cells #[.int .i64 0, .int .i64 0] 116)
              have HB := below_alloc1 (o := .cells #[.int .i64 0, .int .i64 0] 116) HB
              try simp only [World.alloc_drew] at *
              generalize v3.alloc (.cells #[.int .i64 0, .int .i64 0] 116) = v4 at *
              generalize v3.heap.size = gb at *
              have hgb := hge
              clear hge
              refine wpAnyH_ready (rs := [11]) (by kernel_rfl) (by simp) ?_
              refine AllReadyH.cons (o := { dst := none, op := _, type := _, pos := _, after := _, guard := _ }) rfl (fun K hK => ?_) AllReadyH.nil
              obtain ⟨a0, a1, a2, a3⟩ := fA
              go_simp
              refine hK.out _ _ (below_store2 HB hga) (fun hHeld => ?_)
              clear hK K hHeld
              try simp only [Act.put, List.setIfInBounds_toArray, List.set_cons_zero, List.set_cons_succ]
              have fA := Pair2.store ⟨a0, a1, a2, a3⟩ u1 u2
              have fB := fB.other hne.symm u1 u2
              have HB := below_store2 (a := u1) (b := u2) HB hga
              generalize (v4.setCell ⟨ga, 0, none⟩ (.int .i64 u1)).setCell ⟨ga, 1, none⟩ (.int .i64 u2) = X11 at *
              clear a0 a1 a2 a3
              refine wpAnyH_ready (rs := [12]) (by kernel_rfl) (by simp) ?_
              refine AllReadyH.cons (o := { dst := none, op := _, type := _, pos := _, after := _, guard := _ }) rfl (fun K hK => ?_) AllReadyH.nil
              obtain ⟨a0, a1, a2, a3⟩ := fB
              go_simp
              refine hK.out _ _ (below_store2 HB hgb) (fun hHeld => ?_)
              clear hK K hHeld
              try simp only [Act.put, List.setIfInBounds_toArray, List.set_cons_zero, List.set_cons_succ]
              have fB := Pair2.store ⟨a0, a1, a2, a3⟩ rt rd
              have fA := fA.other hne rt rd
              have HB := below_store2 (a := rt) (b := rd) HB hgb
              generalize (X11.setCell ⟨gb, 0, none⟩ (.int .i64 rt)).setCell ⟨gb, 1, none⟩ (.int .i64 rd) = X12 at *
              clear a0 a1 a2 a3
              exact wpAnyH_done (by kernel_rfl) ⟨rfl, ga, gb, rfl, HB, fA, fB⟩ _
            exact AllReadyH.nil
          refine AllReadyH.cons (o := { dst := some 14, op := _, type := _, pos := _, after := _, guard := _ }) rfl (fun K hK => ?_) ?_
          · go_simp
            refine hK.out _ _ (below_alloc1 HB) (fun hHeld => ?_)
            clear hK K hHeld
            try simp only [Act.put, List.setIfInBounds_toArray, List.set_cons_zero, List.set_cons_succ]
            have fB := fresh_new v2 116
            have hge := HB.size
            have HB := below_alloc1 (o := .cells #[.int .i64 0, .int .i64 0] 116) HB
            try simp only [World.alloc_drew] at *
            generalize v2.alloc (.cells #[.int .i64 0, .int .i64 0] 116) = v5 at *
            generalize v2.heap.size = gb at *
            have hgb := hge
            clear hge
            refine wpAnyH_ready (rs := [9]) (by kernel_rfl) (by simp) ?_
            refine AllReadyH.cons (o := { dst := some 13, op := _, type := _, pos := _, after := _, guard := _ }) rfl (fun K hK => ?_) ?_
            · go_simp
              refine hK.out _ _ (below_alloc1 HB) (fun hHeld => ?_)
              clear hK K hHeld
              try simp only [Act.put, List.setIfInBounds_toArray, List.set_cons_zero, List.set_cons_succ]
              have fA := fresh_new v5 116
              have hge := HB.size
              have hne : v5.heap.size ≠ gb := (Nat.ne_of_lt fB.lt).symm
              have fB := fB.alloc (.cells #[.int .i64 0, .int .i64 0] 116)
              have HB := below_alloc1 (o := .cells #[.int .i64 0, .int .i64 0] 116) HB
              try simp only [World.alloc_drew] at *
              generalize v5.alloc (.cells #[.int .i64 0, .int .i64 0] 116) = v6 at *
              generalize v5.heap.size = ga at *
              have hga := hge
              clear hge
              refine wpAnyH_ready (rs := [11]) (by kernel_rfl) (by simp) ?_
              refine AllReadyH.cons (o := { dst := none, op := _, type := _, pos := _, after := _, guard := _ }) rfl (fun K hK => ?_) AllReadyH.nil
              obtain ⟨a0, a1, a2, a3⟩ := fA
              go_simp
              refine hK.out _ _ (below_store2 HB hga) (fun hHeld => ?_)
              clear hK K hHeld
              try simp only [Act.put, List.setIfInBounds_toArray, List.set_cons_zero, List.set_cons_succ]
              have fA := Pair2.store ⟨a0, a1, a2, a3⟩ u1 u2
              have fB := fB.other hne.symm u1 u2
              have HB := below_store2 (a := u1) (b := u2) HB hga
              generalize (v6.setCell ⟨ga, 0, none⟩ (.int .i64 u1)).setCell ⟨ga, 1, none⟩ (.int .i64 u2) = X11 at *
              clear a0 a1 a2 a3
              refine wpAnyH_ready (rs := [12]) (by kernel_rfl) (by simp) ?_
              refine AllReadyH.cons (o := { dst := none, op := _, type := _, pos := _, after := _, guard := _ }) rfl (fun K hK => ?_) AllReadyH.nil
              obtain ⟨a0, a1, a2, a3⟩ := fB
              go_simp
              refine hK.out _ _ (below_store2 HB hgb) (fun hHeld => ?_)
              clear hK K hHeld
              try simp only [Act.put, List.setIfInBounds_toArray, List.set_cons_zero, List.set_cons_succ]
              have fB := Pair2.store ⟨a0, a1, a2, a3⟩ rt rd
              have fA := fA.other hne rt rd
              have HB := below_store2 (a := rt) (b := rd) HB hgb
              generalize (X11.setCell ⟨gb, 0, none⟩ (.int .i64 rt)).setCell ⟨gb, 1, none⟩ (.int .i64 rd) = X12 at *
              clear a0 a1 a2 a3
              exact wpAnyH_done (by kernel_rfl) ⟨rfl, ga, gb, rfl, HB, fA, fB⟩ _
            exact AllReadyH.nil
          exact AllReadyH.nil
        refine AllReadyH.cons (o := { dst := some 13, op := _, type := _, pos := _, after := _, guard := _ }) rfl (fun K hK => ?_) ?_
        · go_simp
          refine hK.out _ _ (below_alloc1 HB) (fun hHeld => ?_)
          clear hK K hHeld
          try simp only [Act.put, List.setIfInBounds_toArray, List.set_cons_zero, List.set_cons_succ]
          have fA := fresh_new v1 116
          have hge := HB.size
          have HB := below_alloc1 (o := .cells #[.int .i64 0, .int .i64 0] 116) HB
          try simp only [World.alloc_drew] at *
          generalize v1.alloc (.cells #[.int .i64 0, .int .i64 0] 116) = v7 at *
          generalize v1.heap.size = ga at *
          have hga := hge
          clear hge
          refine wpAnyH_ready (rs := [8, 10]) (by kernel_rfl) (by simp) ?_
          refine AllReadyH.cons (o := { dst := some 56, op := _, type := _, pos := _, after := _, guard := _ }) rfl (fun K hK => ?_) ?_
          · go_simp
            go_at_call 96
            refine (c96 p pl pr rt rd _ (cell_below HB g4) (cell_below HB g5) (cell_below HB g6) (cell_below HB g7)).mono ?_
            rintro e v8 ⟨rfl, hbn⟩
            have HB := below_then HB hbn
            have fA := fA.below hbn
            clear hbn
            try go_wp2_with fail
            refine hK.out _ _ HB (fun hHeld => ?_)
            clear hK K hHeld
            try simp only [Act.put, List.setIfInBounds_toArray, List.set_cons_zero, List.set_cons_succ]
            refine wpAnyH_ready (rs := [10]) (by kernel_rfl) (by simp) ?_
            refine AllReadyH.cons (o := { dst := some 14, op := _, type := _, pos := _, after := _, guard := _ }) rfl (fun K hK => ?_) ?_
            · go_simp
              refine hK.out _ _ (below_alloc1 HB) (fun hHeld => ?_)
              clear hK K hHeld
              try simp only [Act.put, List.setIfInBounds_toArray, List.set_cons_zero, List.set_cons_succ]
              have fB := fresh_new v8 116
              have hge := HB.size
              have hne : ga ≠ v8.heap.size := Nat.ne_of_lt fA.lt
              have fA := fA.alloc (.cells #[.int .i64 0, .int .i64 0] 116)
              have HB := below_alloc1 (o := .cells #[.int .i64 0, .int .i64 0] 116) HB
              try simp only [World.alloc_drew] at *
              generalize v8.alloc (.cells #[.int .i64 0, .int .i64 0] 116) = v9 at *
              generalize v8.heap.size = gb at *
              have hgb := hge
              clear hge
              refine wpAnyH_ready (rs := [11]) (by kernel_rfl) (by simp) ?_
              refine AllReadyH.cons (o := { dst := none, op := _, type := _, pos := _, after := _, guard := _ }) rfl (fun K hK => ?_) AllReadyH.nil
              obtain ⟨a0, a1, a2, a3⟩ := fA
              go_simp
              refine hK.out _ _ (below_store2 HB hga) (fun hHeld => ?_)
              clear hK K hHeld
              try simp only [Act.put, List.setIfInBounds_toArray, List.set_cons_zero, List.set_cons_succ]
              have fA := Pair2.store ⟨a0, a1, a2, a3⟩ u1 u2
              have fB := fB.other hne.symm u1 u2
              have HB := below_store2 (a := u1) (b := u2) HB hga
              generalize (v9.setCell ⟨ga, 0, none⟩ (.int .i64 u1)).setCell ⟨ga, 1, none⟩ (.int .i64 u2) = X11 at *
              clear a0 a1 a2 a3
              refine wpAnyH_ready (rs := [12]) (by kernel_rfl) (by simp) ?_
              refine AllReadyH.cons (o := { dst := none, op := _, type := _, pos := _, after := _, guard := _ }) rfl (fun K hK => ?_) AllReadyH.nil
              obtain ⟨a0, a1, a2, a3⟩ := fB
              go_simp
              refine hK.out _ _ (below_store2 HB hgb) (fun hHeld => ?_)
              clear hK K hHeld
              try simp only [Act.put, List.setIfInBounds_toArray, List.set_cons_zero, List.set_cons_succ]
              have fB := Pair2.store ⟨a0, a1, a2, a3⟩ rt rd
              have fA := fA.other hne rt rd
              have HB := below_store2 (a := rt) (b := rd) HB hgb
              generalize (X11.setCell ⟨gb, 0, none⟩ (.int .i64 rt)).setCell ⟨gb, 1, none⟩ (.int .i64 rd) = X12 at *
              clear a0 a1 a2 a3
              exact wpAnyH_done (by kernel_rfl) ⟨rfl, ga, gb, rfl, HB, fA, fB⟩ _
            exact AllReadyH.nil
          refine AllReadyH.cons (o := { dst := some 14, op := _, type := _, pos := _, after := _, guard := _ }) rfl (fun K hK => ?_) ?_
          · go_simp
            refine hK.out _ _ (below_alloc1 HB) (fun hHeld => ?_)
            clear hK K hHeld
            try simp only [Act.put, List.setIfInBounds_toArray, List.set_cons_zero, List.set_cons_succ]
            have fB := fresh_new v7 116
            have hge := HB.size
            have hne : ga ≠ v7.heap.size := Nat.ne_of_lt fA.lt
            have fA := fA.alloc (.cells #[.int .i64 0, .int .i64 0] 116)
            have HB := below_alloc1 (o := .cells #[.int .i64 0, .int .i64 0] 116) HB
            try simp only [World.alloc_drew] at *
            generalize v7.alloc (.cells #[.int .i64 0, .int .i64 0] 116) = v10 at *
            generalize v7.heap.size = gb at *
            have hgb := hge
            clear hge
            refine wpAnyH_ready (rs := [8]) (by kernel_rfl) (by simp) ?_
            refine AllReadyH.cons (o := { dst := some 56, op := _, type := _, pos := _, after := _, guard := _ }) rfl (fun K hK => ?_) ?_
            · go_simp
              go_at_call 96
              refine (c96 p pl pr rt rd _ (cell_below HB g4) (cell_below HB g5) (cell_below HB g6) (cell_below HB g7)).mono ?_
              rintro e v11 ⟨rfl, hbn⟩
              have HB := below_then HB hbn
              have fA := fA.below hbn
              have fB := fB.below hbn
              clear hbn
              try go_wp2_with fail
              refine hK.out _ _ HB (fun hHeld => ?_)
              clear hK K hHeld
              try simp only [Act.put, List.setIfInBounds_toArray, List.set_cons_zero, List.set_cons_succ]
              refine wpAnyH_ready (rs := [11]) (by kernel_rfl) (by simp) ?_
              refine AllReadyH.cons (o := { dst := none, op := _, type := _, pos := _, after := _, guard := _ }) rfl (fun K hK => ?_) AllReadyH.nil
              obtain ⟨a0, a1, a2, a3⟩ := fA
              go_simp
              refine hK.out _ _ (below_store2 HB hga) (fun hHeld => ?_)
              clear hK K hHeld
              try simp only [Act.put, List.setIfInBounds_toArray, List.set_cons_zero, List.set_cons_succ]
              have fA := Pair2.store ⟨a0, a1, a2, a3⟩ u1 u2
              have fB := fB.other hne.symm u1 u2
              have HB := below_store2 (a := u1) (b := u2) HB hga
              generalize (v11.setCell ⟨ga, 0, none⟩ (.int .i64 u1)).setCell ⟨ga, 1, none⟩ (.int .i64 u2) = X11 at *
              clear a0 a1 a2 a3
              refine wpAnyH_ready (rs := [12]) (by kernel_rfl) (by simp) ?_
              refine AllReadyH.cons (o := { dst := none, op := _, type := _, pos := _, after := _, guard := _ }) rfl (fun K hK => ?_) AllReadyH.nil
              obtain ⟨a0, a1, a2, a3⟩ := fB
              go_simp
              refine hK.out _ _ (below_store2 HB hgb) (fun hHeld => ?_)
              clear hK K hHeld
              try simp only [Act.put, List.setIfInBounds_toArray, List.set_cons_zero, List.set_cons_succ]
              have fB := Pair2.store ⟨a0, a1, a2, a3⟩ rt rd
              have fA := fA.other hne rt rd
              have HB := below_store2 (a := rt) (b := rd) HB hgb
              generalize (X11.setCell ⟨gb, 0, none⟩ (.int .i64 rt)).setCell ⟨gb, 1, none⟩ (.int .i64 rd) = X12 at *
              clear a0 a1 a2 a3
              exact wpAnyH_done (by kernel_rfl) ⟨rfl, ga, gb, rfl, HB, fA, fB⟩ _
            exact AllReadyH.nil
          exact AllReadyH.nil
        refine AllReadyH.cons (o := { dst := some 14, op := _, type := _, pos := _, after := _, guard := _ }) rfl (fun K hK => ?_) ?_
        · go_simp
          refine hK.out _ _ (below_alloc1 HB) (fun hHeld => ?_)
          clear hK K hHeld
          try simp only [Act.put, List.setIfInBounds_toArray, List.set_cons_zero, List.set_cons_succ]
          have fB := fresh_new v1 116
          have hge := HB.size
          have HB := below_alloc1 (o := .cells #[.int .i64 0, .int .i64 0] 116) HB
          try simp only [World.alloc_drew] at *
          generalize v1.alloc (.cells #[.int .i64 0, .int .i64 0] 116) = v12 at *
          generalize v1.heap.size = gb at *
          have hgb := hge
          clear hge
          refine wpAnyH_ready (rs := [8, 9]) (by kernel_rfl) (by simp) ?_
          refine AllReadyH.cons (o := { dst := some 56, op := _, type := _, pos := _, after := _, guard := _ }) rfl (fun K hK => ?_) ?_
          · go_simp
            go_at_call 96
            refine (c96 p pl pr rt rd _ (cell_below HB g4) (cell_below HB g5) (cell_below HB g6) (cell_below HB g7)).mono ?_
            rintro e v13 ⟨rfl, hbn⟩
            have HB := below_then HB hbn
            have fB := fB.below hbn
            clear hbn
            try go_wp2_with fail
            refine hK.out _ _ HB (fun hHeld => ?_)
            clear hK K hHeld
            try simp only [Act.put, List.setIfInBounds_toArray, List.set_cons_zero, List.set_cons_succ]
            refine wpAnyH_ready (rs := [9]) (by kernel_rfl) (by simp) ?_
            refine AllReadyH.cons (o := { dst := some 13, op := _, type := _, pos := _, after := _, guard := _ }) rfl (fun K hK => ?_) ?_
            · go_simp
              refine hK.out _ _ (below_alloc1 HB) (fun hHeld => ?_)
              clear hK K hHeld
              try simp only [Act.put, List.setIfInBounds_toArray, List.set_cons_zero, List.set_cons_succ]
              have fA := fresh_new v13 116
              have hge := HB.size
              have hne : v13.heap.size ≠ gb := (Nat.ne_of_lt fB.lt).symm
              have fB := fB.alloc (.cells #[.int .i64 0, .int .i64 0] 116)
              have HB := below_alloc1 (o := .cells #[.int .i64 0, .int .i64 0] 116) HB
              try simp only [World.alloc_drew] at *
              generalize v13.alloc (.cells #[.int .i64 0, .int .i64 0] 116) = v14 at *
              generalize v13.heap.size = ga at *
              have hga := hge
              clear hge
              refine wpAnyH_ready (rs := [11]) (by kernel_rfl) (by simp) ?_
              refine AllReadyH.cons (o := { dst := none, op := _, type := _, pos := _, after := _, guard := _ }) rfl (fun K hK => ?_) AllReadyH.nil
              obtain ⟨a0, a1, a2, a3⟩ := fA
              go_simp
              refine hK.out _ _ (below_store2 HB hga) (fun hHeld => ?_)
              clear hK K hHeld
              try simp only [Act.put, List.setIfInBounds_toArray, List.set_cons_zero, List.set_cons_succ]
              have fA := Pair2.store ⟨a0, a1, a2, a3⟩ u1 u2
              have fB := fB.other hne.symm u1 u2
              have HB := below_store2 (a := u1) (b := u2) HB hga
              generalize (v14.setCell ⟨ga, 0, none⟩ (.int .i64 u1)).setCell ⟨ga, 1, none⟩ (.int .i64 u2) = X11 at *
              clear a0 a1 a2 a3
              refine wpAnyH_ready (rs := [12]) (by kernel_rfl) (by simp) ?_
              refine AllReadyH.cons (o := { dst := none, op := _, type := _, pos := _, after := _, guard := _ }) rfl (fun K hK => ?_) AllReadyH.nil
              obtain ⟨a0, a1, a2, a3⟩ := fB
              go_simp
              refine hK.out _ _ (below_store2 HB hgb) (fun hHeld => ?_)
              clear hK K hHeld
              try simp only [Act.put, List.setIfInBounds_toArray, List.set_cons_zero, List.set_cons_succ]
              have fB := Pair2.store ⟨a0, a1, a2, a3⟩ rt rd
              have fA := fA.other hne rt rd
              have HB := below_store2 (a := rt) (b := rd) HB hgb
              generalize (X11.setCell ⟨gb, 0, none⟩ (.int .i64 rt)).setCell ⟨gb, 1, none⟩ (.int .i64 rd) = X12 at *
              clear a0 a1 a2 a3
              exact wpAnyH_done (by kernel_rfl) ⟨rfl, ga, gb, rfl, HB, fA, fB⟩ _
            exact AllReadyH.nil
          refine AllReadyH.cons (o := { dst := some 13, op := _, type := _, pos := _, after := _, guard := _ }) rfl (fun K hK => ?_) ?_
          · go_simp
            refine hK.out _ _ (below_alloc1 HB) (fun hHeld => ?_)
            clear hK K hHeld
            try simp only [Act.put, List.setIfInBounds_toArray, List.set_cons_zero, List.set_cons_succ]
            have fA := fresh_new v12 116
            have hge := HB.size
            have hne : v12.heap.size ≠ gb := (Nat.ne_of_lt fB.lt).symm
            have fB := fB.alloc (.cells #[.int .i64 0, .int .i64 0] 116)
            have HB := below_alloc1 (o := .cells #[.int .i64 0, .int .i64 0] 116) HB
            try simp only [World.alloc_drew] at *
            generalize v12.alloc (.cells #[.int .i64 0, .int .i64 0] 116) = v15 at *
            generalize v12.heap.size = ga at *
            have hga := hge
            clear hge
            refine wpAnyH_ready (rs := [8]) (by kernel_rfl) (by simp) ?_
            refine AllReadyH.cons (o := { dst := some 56, op := _, type := _, pos := _, after := _, guard := _ }) rfl (fun K hK => ?_) ?_
            · go_simp
              go_at_call 96
              refine (c96 p pl pr rt rd _ (cell_below HB g4) (cell_below HB g5) (cell_below HB g6) (cell_below HB g7)).mono ?_
              rintro e v16 ⟨rfl, hbn⟩
              have HB := below_then HB hbn
              have fA := fA.below hbn
              have fB := fB.below hbn
              clear hbn
              try go_wp2_with fail
              refine hK.out _ _ HB (fun hHeld => ?_)
              clear hK K hHeld
              try simp only [Act.put, List.setIfInBounds_toArray, List.set_cons_zero, List.set_cons_succ]
              refine wpAnyH_ready (rs := [11]) (by kernel_rfl) (by simp) ?_
              refine AllReadyH.cons (o := { dst := none, op := _, type := _, pos := _, after := _, guard := _ }) rfl (fun K hK => ?_) AllReadyH.nil
              obtain ⟨a0, a1, a2, a3⟩ := fA
              go_simp
              refine hK.out _ _ (below_store2 HB hga) (fun hHeld => ?_)
              clear hK K hHeld
              try simp only [Act.put, List.setIfInBounds_toArray, List.set_cons_zero, List.set_cons_succ]
              have fA := Pair2.store ⟨a0, a1, a2, a3⟩ u1 u2
              have fB := fB.other hne.symm u1 u2
              have HB := below_store2 (a := u1) (b := u2) HB hga
              generalize (v16.setCell ⟨ga, 0, none⟩ (.int .i64 u1)).setCell ⟨ga, 1, none⟩ (.int .i64 u2) = X11 at *
              clear a0 a1 a2 a3
              refine wpAnyH_ready (rs := [12]) (by kernel_rfl) (by simp) ?_
              refine AllReadyH.cons (o := { dst := none, op := _, type := _, pos := _, after := _, guard := _ }) rfl (fun K hK => ?_) AllReadyH.nil
              obtain ⟨a0, a1, a2, a3⟩ := fB
              go_simp
              refine hK.out _ _ (below_store2 HB hgb) (fun hHeld => ?_)
              clear hK K hHeld
              try simp only [Act.put, List.setIfInBounds_toArray, List.set_cons_zero, List.set_cons_succ]
              have fB := Pair2.store ⟨a0, a1, a2, a3⟩ rt rd
              have fA := fA.other hne rt rd
              have HB := below_store2 (a := rt) (b := rd) HB hgb
              generalize (X11.setCell ⟨gb, 0, none⟩ (.int .i64 rt)).setCell ⟨gb, 1, none⟩ (.int .i64 rd) = X12 at *
              clear a0 a1 a2 a3
              exact wpAnyH_done (by kernel_rfl) ⟨rfl, ga, gb, rfl, HB, fA, fB⟩ _
            exact AllReadyH.nil
          exact AllReadyH.nil
        exact AllReadyH.nil
      refine AllReadyH.cons (o := { dst := some 13, op := _, type := _, pos := _, after := _, guard := _ }) rfl (fun K hK => ?_) ?_
      · go_simp
        refine hK.out _ _ (below_alloc1 HB) (fun hHeld => ?_)
        clear hK K hHeld
        try simp only [Act.put, List.setIfInBounds_toArray, List.set_cons_zero, List.set_cons_succ]
        have fA := fresh_new V0 116
        have hge := HB.size
        have HB := below_alloc1 (o := .cells #[.int .i64 0, .int .i64 0] 116) HB
        try simp only [World.alloc_drew] at *
        generalize V0.alloc (.cells #[.int .i64 0, .int .i64 0] 116) = v17 at *
        generalize V0.heap.size = ga at *
        have hga := hge
        clear hge
        refine wpAnyH_ready (rs := [6, 10]) (by kernel_rfl) (by simp) ?_
        refine AllReadyH.cons (o := { dst := some 54, op := _, type := _, pos := _, after := _, guard := _ }) rfl (fun K hK => ?_) ?_
        · go_simp
          go_at_call 100
          refine (c100 _ _ _ _ _ _).mono ?_
          rintro e v18 ⟨rfl, hbn⟩
          rw [unhide HU1, unhide HU2]
          have HB := below_then HB hbn
          have fA := fA.below hbn
          clear hbn
          try go_wp2_with fail
          refine hK.out _ _ HB (fun hHeld => ?_)
          clear hK K hHeld
          try simp only [Act.put, List.setIfInBounds_toArray, List.set_cons_zero, List.set_cons_succ]
          refine wpAnyH_ready (rs := [8, 10]) (by kernel_rfl) (by simp) ?_
          refine AllReadyH.cons (o := { dst := some 56, op := _, type := _, pos := _, after := _, guard := _ }) rfl (fun K hK => ?_) ?_
          · go_simp
            go_at_call 96
            refine (c96 p pl pr rt rd _ (cell_below HB g4) (cell_below HB g5) (cell_below HB g6) (cell_below HB g7)).mono ?_
            rintro e v19 ⟨rfl, hbn⟩
            have HB := below_then HB hbn
            have fA := fA.below hbn
            clear hbn
            try go_wp2_with fail
            refine hK.out _ _ HB (fun hHeld => ?_)
            clear hK K hHeld
            try simp only [Act.put, List.setIfInBounds_toArray, List.set_cons_zero, List.set_cons_succ]
            refine wpAnyH_ready (rs := [10]) (by kernel_rfl) (by simp) ?_
            refine AllReadyH.cons (o := { dst := some 14, op := _, type := _, pos := _, after := _, guard := _ }) rfl (fun K hK => ?_) ?_
            · go_simp
              refine hK.out _ _ (below_alloc1 HB) (fun hHeld => ?_)
              clear hK K hHeld
              try simp only [Act.put, List.setIfInBounds_toArray, List.set_cons_zero, List.set_cons_succ]
              have fB := fresh_new v19 116
              have hge := HB.size
              have hne : ga ≠ v19.heap.size := Nat.ne_of_lt fA.lt
              have fA := fA.alloc (.cells #[.int .i64 0, .int .i64 0] 116)
              have HB := below_alloc1 (o := .cells #[.int .i64 0, .int .i64 0] 116) HB
              try simp only [World.alloc_drew] at *
              generalize v19.alloc (.cells #[.int .i64 0, .int .i64 0] 116) = v20 at *
              generalize v19.heap.size = gb at *
              have hgb := hge
              clear hge
              refine wpAnyH_ready (rs := [11]) (by kernel_rfl) (by simp) ?_
              refine AllReadyH.cons (o := { dst := none, op := _, type := _, pos := _, after := _, guard := _ }) rfl (fun K hK => ?_) AllReadyH.nil
              obtain ⟨a0, a1, a2, a3⟩ := fA
              go_simp
              refine hK.out _ _ (below_store2 HB hga) (fun hHeld => ?_)
              clear hK K hHeld
              try simp only [Act.put, List.setIfInBounds_toArray, List.set_cons_zero, List.set_cons_succ]
              have fA := Pair2.store ⟨a0, a1, a2, a3⟩ u1 u2
              have fB := fB.other hne.symm u1 u2
              have HB := below_store2 (a := u1) (b := u2) HB hga
              generalize (v20.setCell ⟨ga, 0, none⟩ (.int .i64 u1)).setCell ⟨ga, 1, none⟩ (.int .i64 u2) = X11 at *
              clear a0 a1 a2 a3
              refine wpAnyH_ready (rs := [12]) (by kernel_rfl) (by simp) ?_
              refine AllReadyH.cons (o := { dst := none, op := _, type := _, pos := _, after := _, guard := _ }) rfl (fun K hK => ?_) AllReadyH.nil
              obtain ⟨a0, a1, a2, a3⟩ := fB
              go_simp
              refine hK.out _ _ (below_store2 HB hgb) (fun hHeld => ?_)
              clear hK K hHeld
              try simp only [Act.put, List.setIfInBounds_toArray, List.set_cons_zero, List.set_cons_succ]
              have fB := Pair2.store ⟨a0, a1, a2, a3⟩ rt rd
              have fA := fA.other hne rt rd
              have HB := below_store2 (a := rt) (b := rd) HB hgb
              generalize (X11.setCell ⟨gb, 0, none⟩ (.int .i64 rt)).setCell ⟨gb, 1, none⟩ (.int .i64 rd) = X12 at *
              clear a0 a1 a2 a3
              exact wpAnyH_done (by kernel_rfl) ⟨rfl, ga, gb, rfl, HB, fA, fB⟩ _
            exact AllReadyH.nil
          refine AllReadyH.cons (o := { dst := some 14, op := _, type := _, pos := _, after := _, guard := _ }) rfl (fun K hK => ?_) ?_
          · go_simp
            refine hK.out _ _ (below_alloc1 HB) (fun hHeld => ?_)
            clear hK K hHeld
            try simp only [Act.put, List.setIfInBounds_toArray, List.set_cons_zero, List.set_cons_succ]
            have fB := fresh_new v18 116
            have hge := HB.size
            have hne : ga ≠ v18.heap.size := Nat.ne_of_lt fA.lt
            have fA := fA.alloc (.cells #[.int .i64 0, .int .i64 0] 116)
            have HB := below_alloc1 (o := .cells #[.int .i64 0, .int .i64 0] 116) HB
            try simp only [World.alloc_drew] at *
            generalize v18.alloc (.cells #[.int .i64 0, .int .i64 0] 116) = v21 at *
            generalize v18.heap.size = gb at *
            have hgb := hge
            clear hge
            refine wpAnyH_ready (rs := [8]) (by kernel_rfl) (by simp) ?_
            refine AllReadyH.cons (o := { dst := some 56, op := _, type := _, pos := _, after := _, guard := _ }) rfl (fun K hK => ?_) ?_
            · go_simp
              go_at_call 96
              refine (c96 p pl pr rt rd _ (cell_below HB g4) (cell_below HB g5) (cell_below HB g6) (cell_below HB g7)).mono ?_
              rintro e v22 ⟨rfl, hbn⟩
              have HB := below_then HB hbn
              have fA := fA.below hbn
              have fB := fB.below hbn
              clear hbn
              try go_wp2_with fail
              refine hK.out _ _ HB (fun hHeld => ?_)
              clear hK K hHeld
              try simp only [Act.put, List.setIfInBounds_toArray, List.set_cons_zero, List.set_cons_succ]
              refine wpAnyH_ready (rs := [11]) (by kernel_rfl) (by simp) ?_
              refine AllReadyH.cons (o := { dst := none, op := _, type := _, pos := _, after := _, guard := _ }) rfl (fun K hK => ?_) AllReadyH.nil
              obtain ⟨a0, a1, a2, a3⟩ := fA
              go_simp
              refine hK.out _ _ (below_store2 HB hga) (fun hHeld => ?_)
              clear hK K hHeld
              try simp only [Act.put, List.setIfInBounds_toArray, List.set_cons_zero, List.set_cons_succ]
              have fA := Pair2.store ⟨a0, a1, a2, a3⟩ u1 u2
              have fB := fB.other hne.symm u1 u2
              have HB := below_store2 (a := u1) (b := u2) HB hga
              generalize (v22.setCell ⟨ga, 0, none⟩ (.int .i64 u1)).setCell ⟨ga, 1, none⟩ (.int .i64 u2) = X11 at *
              clear a0 a1 a2 a3
              refine wpAnyH_ready (rs := [12]) (by kernel_rfl) (by simp) ?_
              refine AllReadyH.cons (o := { dst := none, op := _, type := _, pos := _, after := _, guard := _ }) rfl (fun K hK => ?_) AllReadyH.nil
              obtain ⟨a0, a1, a2, a3⟩ := fB
              go_simp
              refine hK.out _ _ (below_store2 HB hgb) (fun hHeld => ?_)
              clear hK K hHeld
              try simp only [Act.put, List.setIfInBounds_toArray, List.set_cons_zero, List.set_cons_succ]
              have fB := Pair2.store ⟨a0, a1, a2, a3⟩ rt rd
              have fA := fA.other hne rt rd
              have HB := below_store2 (a := rt) (b := rd) HB hgb
              generalize (X11.setCell ⟨gb, 0, none⟩ (.int .i64 rt)).setCell ⟨gb, 1, none⟩ (.int .i64 rd) = X12 at *
              clear a0 a1 a2 a3
              exact wpAnyH_done (by kernel_rfl) ⟨rfl, ga, gb, rfl, HB, fA, fB⟩ _
            exact AllReadyH.nil
          exact AllReadyH.nil
        refine AllReadyH.cons (o := { dst := some 14, op := _, type := _, pos := _, after := _, guard := _ }) rfl (fun K hK => ?_) ?_
        · go_simp
          refine hK.out _ _ (below_alloc1 HB) (fun hHeld => ?_)
          clear hK K hHeld
          try simp only [Act.put, List.setIfInBounds_toArray, List.set_cons_zero, List.set_cons_succ]
          have fB := fresh_new v17 116
          have hge := HB.size
          have hne : ga ≠ v17.heap.size := Nat.ne_of_lt fA.lt
          have fA := fA.alloc (.cells #[.int .i64 0, .int .i64 0] 116)
          have HB := below_alloc1 (o := .cells #[.int .i64 0, .int .i64 0] 116) HB
          try simp only [World.alloc_drew] at *
          generalize v17.alloc (.cells #[.int .i64 0, .int .i64 0] 116) = v23 at *
          generalize v17.heap.size = gb at *
          have hgb := hge
          clear hge
          refine wpAnyH_ready (rs := [6]) (by kernel_rfl) (by simp) ?_
          refine AllReadyH.cons (o := { dst := some 54, op := _, type := _, pos := _, after := _, guard := _ }) rfl (fun K hK => ?_) ?_
          · go_simp
            go_at_call 100
            refine (c100 _ _ _ _ _ _).mono ?_
            rintro e v24 ⟨rfl, hbn⟩
            rw [unhide HU1, unhide HU2]
            have HB := below_then HB hbn
            have fA := fA.below hbn
            have fB := fB.below hbn
            clear hbn
            try go_wp2_with fail
            refine hK.out _ _ HB (fun hHeld => ?_)
            clear hK K hHeld
            try simp only [Act.put, List.setIfInBounds_toArray, List.set_cons_zero, List.set_cons_succ]
            refine wpAnyH_ready (rs := [8]) (by kernel_rfl) (by simp) ?_
            refine AllReadyH.cons (o := { dst := some 56, op := _, type := _, pos := _, after := _, guard := _ }) rfl (fun K hK => ?_) ?_
            · go_simp
              go_at_call 96
              refine (c96 p pl pr rt rd _ (cell_below HB g4) (cell_below HB g5) (cell_below HB g6) (cell_below HB g7)).mono ?_
              rintro e v25 ⟨rfl, hbn⟩
              have HB := below_then HB hbn
              have fA := fA.below hbn
              have fB := fB.below hbn
              clear hbn
              try go_wp2_with fail
              refine hK.out _ _ HB (fun hHeld => ?_)
              clear hK K hHeld
              try simp only [Act.put, List.setIfInBounds_toArray, List.set_cons_zero, List.set_cons_succ]
              refine wpAnyH_ready (rs := [11]) (by kernel_rfl) (by simp) ?_
              refine AllReadyH.cons (o := { dst := none, op := _, type := _, pos := _, after := _, guard := _ }) rfl (fun K hK => ?_) AllReadyH.nil
              obtain ⟨a0, a1, a2, a3⟩ := fA
              go_simp
              refine hK.out _ _ (below_store2 HB hga) (fun hHeld => ?_)
              clear hK K hHeld
              try simp only [Act.put, List.setIfInBounds_toArray, List.set_cons_zero, List.set_cons_succ]
              have fA := Pair2.store ⟨a0, a1, a2, a3⟩ u1 u2
              have fB := fB.other hne.symm u1 u2
              have HB := below_store2 (a := u1) (b := u2) HB hga
              generalize (v25.setCell ⟨ga, 0, none⟩ (.int .i64 u1)).setCell ⟨ga, 1, none⟩ (.int .i64 u2) = X11 at *
              clear a0 a1 a2 a3
              refine wpAnyH_ready (rs := [12]) (by kernel_rfl) (by simp) ?_
              refine AllReadyH.cons (o := { dst := none, op := _, type := _, pos := _, after := _, guard := _ }) rfl (fun K hK => ?_) AllReadyH.nil
              obtain ⟨a0, a1, a2, a3⟩ := fB
              go_simp
              refine hK.out _ _ (below_store2 HB hgb) (fun hHeld => ?_)
              clear hK K hHeld
              try simp only [Act.put, List.setIfInBounds_toArray, List.set_cons_zero, List.set_cons_succ]
              have fB := Pair2.store ⟨a0, a1, a2, a3⟩ rt rd
              have fA := fA.other hne rt rd
              have HB := below_store2 (a := rt) (b := rd) HB hgb
              generalize (X11.setCell ⟨gb, 0, none⟩ (.int .i64 rt)).setCell ⟨gb, 1, none⟩ (.int .i64 rd) = X12 at *
              clear a0 a1 a2 a3
              exact wpAnyH_done (by kernel_rfl) ⟨rfl, ga, gb, rfl, HB, fA, fB⟩ _
            exact AllReadyH.nil
          exact AllReadyH.nil
        exact AllReadyH.nil
      refine AllReadyH.cons (o := { dst := some 14, op := _, type := _, pos := _, after := _, guard := _ }) rfl (fun K hK => ?_) ?_
      · go_simp
        refine hK.out _ _ (below_alloc1 HB) (fun hHeld => ?_)
        clear hK K hHeld
        try simp only [Act.put, List.setIfInBounds_toArray, List.set_cons_zero, List.set_cons_succ]
        have fB := fresh_new V0 116
        have hge := HB.size
        have HB := below_alloc1 (o := .cells #[.int .i64 0, .int .i64 0] 116) HB
        try simp only [World.alloc_drew] at *
        generalize V0.alloc (.cells #[.int .i64 0, .int .i64 0] 116) = v26 at *
        generalize V0.heap.size = gb at *
        have hgb := hge
        clear hge
        refine wpAnyH_ready (rs := [6, 9]) (by kernel_rfl) (by simp) ?_
        refine AllReadyH.cons (o := { dst := some 54, op := _, type := _, pos := _, after := _, guard := _ }) rfl (fun K hK => ?_) ?_
        · go_simp
          go_at_call 100
          refine (c100 _ _ _ _ _ _).mono ?_
          rintro e v27 ⟨rfl, hbn⟩
          rw [unhide HU1, unhide HU2]
          have HB := below_then HB hbn
          have fB := fB.below hbn
          clear hbn
          try go_wp2_with fail
          refine hK.out _ _ HB (fun hHeld => ?_)
          clear hK K hHeld
          try simp only [Act.put, List.setIfInBounds_toArray, List.set_cons_zero, List.set_cons_succ]
          refine wpAnyH_ready (rs := [8, 9]) (by kernel_rfl) (by simp) ?_
          refine AllReadyH.cons (o := { dst := some 56, op := _, type := _, pos := _, after := _, guard := _ }) rfl (fun K hK => ?_) ?_
          · go_simp
            go_at_call 96
            refine (c96 p pl pr rt rd _ (cell_below HB g4) (cell_below HB g5) (cell_below HB g6) (cell_below HB g7)).mono ?_
            rintro e v28 ⟨rfl, hbn⟩
            have HB := below_then HB hbn
            have fB := fB.below hbn
            clear hbn
            try go_wp2_with fail
            refine hK.out _ _ HB (fun hHeld => ?_)
            clear hK K hHeld
            try simp only [Act.put, List.setIfInBounds_toArray, List.set_cons_zero, List.set_cons_succ]
            refine wpAnyH_ready (rs := [9]) (by kernel_rfl) (by simp) ?_
            refine AllReadyH.cons (o := { dst := some 13, op := _, type := _, pos := _, after := _, guard := _ }) rfl (fun K hK => ?_) ?_
            · go_simp
              refine hK.out _ _ (below_alloc1 HB) (fun hHeld => ?_)
              clear hK K hHeld
              try simp only [Act.put, List.setIfInBounds_toArray, List.set_cons_zero, List.set_cons_succ]
              have fA := fresh_new v28 116
              have hge := HB.size
              have hne : v28.heap.size ≠ gb := (Nat.ne_of_lt fB.lt).symm
              have fB := fB.alloc (.cells #[.int .i64 0, .int .i64 0] 116)
              have HB := below_alloc1 (o := .cells #[.int .i64 0, .int .i64 0] 116) HB
              try simp only [World.alloc_drew] at *
              generalize v28.alloc (.cells #[.int .i64 0, .int .i64 0] 116) = v29 at *
              generalize v28.heap.size = ga at *
              have hga := hge
              clear hge
              refine wpAnyH_ready (rs := [11]) (by kernel_rfl) (by simp) ?_
              refine AllReadyH.cons (o := { dst := none, op := _, type := _, pos := _, after := _, guard := _ }) rfl (fun K hK => ?_) AllReadyH.nil
              obtain ⟨a0, a1, a2, a3⟩ := fA
              go_simp
              refine hK.out _ _ (below_store2 HB hga) (fun hHeld => ?_)
              clear hK K hHeld
              try simp only [Act.put, List.setIfInBounds_toArray, List.set_cons_zero, List.set_cons_succ]
              have fA := Pair2.store ⟨a0, a1, a2, a3⟩ u1 u2
              have fB := fB.other hne.symm u1 u2
              have HB := below_store2 (a := u1) (b := u2) HB hga
              generalize (v29.setCell ⟨ga, 0, none⟩ (.int .i64 u1)).setCell ⟨ga, 1, none⟩ (.int .i64 u2) = X11 at *
              clear a0 a1 a2 a3
              refine wpAnyH_ready (rs := [12]) (by kernel_rfl) (by simp) ?_
              refine AllReadyH.cons (o := { dst := none, op := _, type := _, pos := _, after := _, guard := _ }) rfl (fun K hK => ?_) AllReadyH.nil
              obtain ⟨a0, a1, a2, a3⟩ := fB
              go_simp
              refine hK.out _ _ (below_store2 HB hgb) (fun hHeld => ?_)
              clear hK K hHeld
              try simp only [Act.put, List.setIfInBounds_toArray, List.set_cons_zero, List.set_cons_succ]
              have fB := Pair2.store ⟨a0, a1, a2, a3⟩ rt rd
              have fA := fA.other hne rt rd
              have HB := below_store2 (a := rt) (b := rd) HB hgb
              generalize (X11.setCell ⟨gb, 0, none⟩ (.int .i64 rt)).setCell ⟨gb, 1, none⟩ (.int .i64 rd) = X12 at *
              clear a0 a1 a2 a3
              exact wpAnyH_done (by kernel_rfl) ⟨rfl, ga, gb, rfl, HB, fA, fB⟩ _
            exact AllReadyH.nil
          refine AllReadyH.cons (o := { dst := some 13, op := _, type := _, pos := _, after := _, guard := _ }) rfl (fun K hK => ?_) ?_
          · go_simp
            refine hK.out _ _ (below_alloc1 HB) (fun hHeld => ?_)
            clear hK K hHeld
            try simp only [Act.put, List.setIfInBounds_toArray, List.set_cons_zero, List.set_cons_succ]
            have fA := fresh_new v27 116
            have hge := HB.size
            have hne : v27.heap.size ≠ gb := (Nat.ne_of_lt fB.lt).symm
            have fB := fB.alloc (.cells #[.int .i64 0, .int .i64 0] 116)
            have HB := below_alloc1 (o := .cells #[.int .i64 0, .int .i64 0] 116) HB
            try simp only [World.alloc_drew] at *
            generalize v27.alloc (.cells #[.int .i64 0, .int .i64 0] 116) = v30 at *
            generalize v27.heap.size = ga at *
            have hga := hge
            clear hge
            refine wpAnyH_ready (rs := [8]) (by kernel_rfl) (by simp) ?_
            refine AllReadyH.cons (o := { dst := some 56, op := _, type := _, pos := _, after := _, guard := _ }) rfl (fun K hK => ?_) ?_
            · go_simp
              go_at_call 96
              refine (c96 p pl pr rt rd _ (cell_below HB g4) (cell_below HB g5) (cell_below HB g6) (cell_below HB g7)).mono ?_
              rintro e v31 ⟨rfl, hbn⟩
              have HB := below_then HB hbn
              have fA := fA.below hbn
              have fB := fB.below hbn
              clear hbn
              try go_wp2_with fail
              refine hK.out _ _ HB (fun hHeld => ?_)
              clear hK K hHeld
              try simp only [Act.put, List.setIfInBounds_toArray, List.set_cons_zero, List.set_cons_succ]
              refine wpAnyH_ready (rs := [11]) (by kernel_rfl) (by simp) ?_
              refine AllReadyH.cons (o := { dst := none, op := _, type := _, pos := _, after := _, guard := _ }) rfl (fun K hK => ?_) AllReadyH.nil
              obtain ⟨a0, a1, a2, a3⟩ := fA
              go_simp
              refine hK.out _ _ (below_store2 HB hga) (fun hHeld => ?_)
              clear hK K hHeld
              try simp only [Act.put, List.setIfInBounds_toArray, List.set_cons_zero, List.set_cons_succ]
              have fA := Pair2.store ⟨a0, a1, a2, a3⟩ u1 u2
              have fB := fB.other hne.symm u1 u2
              have HB := below_store2 (a := u1) (b := u2) HB hga
              generalize (v31.setCell ⟨ga, 0, none⟩ (.int .i64 u1)).setCell ⟨ga, 1, none⟩ (.int .i64 u2) = X11 at *
              clear a0 a1 a2 a3
              refine wpAnyH_ready (rs := [12]) (by kernel_rfl) (by simp) ?_
              refine AllReadyH.cons (o := { dst := none, op := _, type := _, pos := _, after := _, guard := _ }) rfl (fun K hK => ?_) AllReadyH.nil
              obtain ⟨a0, a1, a2, a3⟩ := fB
              go_simp
              refine hK.out _ _ (below_store2 HB hgb) (fun hHeld => ?_)
              clear hK K hHeld
              try simp only [Act.put, List.setIfInBounds_toArray, List.set_cons_zero, List.set_cons_succ]
              have fB := Pair2.store ⟨a0, a1, a2, a3⟩ rt rd
              have fA := fA.other hne rt rd
              have HB := below_store2 (a := rt) (b := rd) HB hgb
              generalize (X11.setCell ⟨gb, 0, none⟩ (.int .i64 rt)).setCell ⟨gb, 1, none⟩ (.int .i64 rd) = X12 at *
              clear a0 a1 a2 a3
              exact wpAnyH_done (by kernel_rfl) ⟨rfl, ga, gb, rfl, HB, fA, fB⟩ _
            exact AllReadyH.nil
          exact AllReadyH.nil
        refine AllReadyH.cons (o := { dst := some 13, op := _, type := _, pos := _, after := _, guard := _ }) rfl (fun K hK => ?_) ?_
        · go_simp
          refine hK.out _ _ (below_alloc1 HB) (fun hHeld => ?_)
          clear hK K hHeld
          try simp only [Act.put, List.setIfInBounds_toArray, List.set_cons_zero, List.set_cons_succ]
          have fA := fresh_new v26 116
          have hge := HB.size
          have hne : v26.heap.size ≠ gb := (Nat.ne_of_lt fB.lt).symm
          have fB := fB.alloc (.cells #[.int .i64 0, .int .i64 0] 116)
          have HB := below_alloc1 (o := .cells #[.int .i64 0, .int .i64 0] 116) HB
          try simp only [World.alloc_drew] at *
          generalize v26.alloc (.cells #[.int .i64 0, .int .i64 0] 116) = v32 at *
          generalize v26.heap.size = ga at *
          have hga := hge
          clear hge
          refine wpAnyH_ready (rs := [6]) (by kernel_rfl) (by simp) ?_
          refine AllReadyH.cons (o := { dst := some 54, op := _, type := _, pos := _, after := _, guard := _ }) rfl (fun K hK => ?_) ?_
          · go_simp
            go_at_call 100
            refine (c100 _ _ _ _ _ _).mono ?_
            rintro e v33 ⟨rfl, hbn⟩
            rw [unhide HU1, unhide HU2]
            have HB := below_then HB hbn
            have fA := fA.below hbn
            have fB := fB.below hbn
            clear hbn
            try go_wp2_with fail
            refine hK.out _ _ HB (fun hHeld => ?_)
            clear hK K hHeld
            try simp only [Act.put, List.setIfInBounds_toArray, List.set_cons_zero, List.set_cons_succ]
            refine wpAnyH_ready (rs := [8]) (by kernel_rfl) (by simp) ?_
            refine AllReadyH.cons (o := { dst := some 56, op := _, type := _, pos := _, after := _, guard := _ }) rfl (fun K hK => ?_) ?_
            · go_simp
              go_at_call 96
              refine (c96 p pl pr rt rd _ (cell_below HB g4) (cell_below HB g5) (cell_below HB g6) (cell_below HB g7)).mono ?_
              rintro e v34 ⟨rfl, hbn⟩
              have HB := below_then HB hbn
              have fA := fA.below hbn
              have fB := fB.below hbn
              clear hbn
              try go_wp2_with fail
              refine hK.out _ _ HB (fun hHeld => ?_)
              clear hK K hHeld
              try simp only [Act.put, List.setIfInBounds_toArray, List.set_cons_zero, List.set_cons_succ]
              refine wpAnyH_ready (rs := [11]) (by kernel_rfl) (by simp) ?_
              refine AllReadyH.cons (o := { dst := none, op := _, type := _, pos := _, after := _, guard := _ }) rfl (fun K hK => ?_) AllReadyH.nil
              obtain ⟨a0, a1, a2, a3⟩ := fA
              go_simp
              refine hK.out _ _ (below_store2 HB hga) (fun hHeld => ?_)
              clear hK K hHeld
              try simp only [Act.put, List.setIfInBounds_toArray, List.set_cons_zero, List.set_cons_succ]
              have fA := Pair2.store ⟨a0, a1, a2, a3⟩ u1 u2
              have fB := fB.other hne.symm u1 u2
              have HB := below_store2 (a := u1) (b := u2) HB hga
              generalize (v34.setCell ⟨ga, 0, none⟩ (.int .i64 u1)).setCell ⟨ga, 1, none⟩ (.int .i64 u2) = X11 at *
              clear a0 a1 a2 a3
              refine wpAnyH_ready (rs := [12]) (by kernel_rfl) (by simp) ?_
              refine AllReadyH.cons (o := { dst := none, op := _, type := _, pos := _, after := _, guard := _ }) rfl (fun K hK => ?_) AllReadyH.nil
              obtain ⟨a0, a1, a2, a3⟩ := fB
              go_simp
              refine hK.out _ _ (below_store2 HB hgb) (fun hHeld => ?_)
              clear hK K hHeld
              try simp only [Act.put, List.setIfInBounds_toArray, List.set_cons_zero, List.set_cons_succ]
              have fB := Pair2.store ⟨a0, a1, a2, a3⟩ rt rd
              have fA := fA.other hne rt rd
              have HB := below_store2 (a := rt) (b := rd) HB hgb
              generalize (X11.setCell ⟨gb, 0, none⟩ (.int .i64 rt)).setCell ⟨gb, 1, none⟩ (.int .i64 rd) = X12 at *
              clear a0 a1 a2 a3
              exact wpAnyH_done (by kernel_rfl) ⟨rfl, ga, gb, rfl, HB, fA, fB⟩ _
            exact AllReadyH.nil
          exact AllReadyH.nil
        exact AllReadyH.nil
      exact AllReadyH.nil
    · rintro ga gb w3 ⟨hb3, fA, fB⟩
      simp only [Act.put, List.setIfInBounds_toArray, List.set_cons_zero, List.set_cons_succ, Exit.then]
      have HBg := hide (below_then (unhide HBf) hb3)
      have q0 := cell_below hb3 g0
      have q1 := cell_below hb3 g1
      have q2 := cell_below hb3 g2
      have q4 := cell_below hb3 g4
      have q5 := cell_below hb3 g5
      have HTP3 := hide ((unhide HTP2).below hb3 _ _ _)
      have HPT3 := hide ((unhide HPT2).below hb3 (Nat.le_refl _))
      obtain ⟨a0, a1, -, -⟩ := fA
      obtain ⟨b0, b1, -, -⟩ := fB
      clear hb3 g0 g1 g2 g3 g4 g5 g6 g7 HBf HTP2 HPT2
      have HO : Hid (Tm.okB u1 = true ∧ Tm.okB u2 = true ∧ Tm.okB rt = true ∧ Tm.okB rd = true) := by
        obtain ⟨o1, o2, o3, o4⟩ := unhide Hho
        have h1 := unhide HU1
        have h2 := unhide HU2
        cases lb
        · simp at h1 h2; subst h1 h2; exact ⟨o2, o1, o3, o4⟩
        · simp at h1 h2; subst h1 h2; exact ⟨o1, o2, o3, o4⟩
      by_cases e1 : u1 = rt
      · by_cases e2 : u2 = rd
        · have hxx : x = if lb = true then rt else rd := by
            have h1 := unhide HU1
            have h2 := unhide HU2
            cases lb
            · simp at h1 h2 ⊢; omega
            · simp at h1 h2 ⊢; omega
          have hA := unhide HA
          rw [if_pos ⟨e1, e2⟩] at hA
          have HI2 := hide (unhide HI hxx)
          have HA2 := hide hA
          have f1 : (u1 == rt) = true := by rw [beq_iff_eq]; exact e1
          have f2 : (u2 == rd) = true := by rw [beq_iff_eq]; exact e2
          clear hA hxx HI HA e1 e2 HU1 HU2
          go_wp2_with fail
          refine (c101 p pl pr c a lb _ q4 q5).mono ?_
          rintro e w4 ⟨rfl, hb4⟩
          rw [unhide HPP]
          generalize (if lb = true then pr else pl) = po
          have r1 := cell_below hb4 q1
          have HBh := hide (below_then (unhide HBg) hb4)
          have HTP4 := hide ((unhide HTP3).below hb4 _ _ _)
          have HPT4 := hide ((unhide HPT3).below hb4 (Nat.le_refl _))
          clear hb4 q0 q1 q2 q4 q5 a0 a1 b0 b1 HBg HTP3 HPT3
          go_wp2_with fail
          have hW4 := below_drew w4
          go_region_held3 (fun w' => w'.cell? ⟨B, 1, none⟩ = some (.int .i64 (a : Int)) ∧ Below w4.heap.size w4 w') (refine ⟨cell_below ?_ r1, ?_⟩ <;> assumption) ((go_at_call 65; refine ((unhide IH) part init _ leaf pp _ k cap' _ (by have := unhide HPC; omega) (unhide HPL) (by omega) (unhide HI2) (by exact (unhide HTP4).drew) (by exact (unhide HPT4).drew)).mono ?_; rintro e w5 ⟨v5, rfl, ho5, hb5⟩; have hb6 := below_undrew hb5))
          have HT := hide (told_then (unhide HBh) ⟨v5, rfl, ho5, hb5⟩)
          clear ho5 hb5 hb6 hW4
          go_wp2_with fail
          go_ret
          rw [← unhide HA2]
          exact unhide HT
        · have hA := unhide HA
          rw [if_neg (fun h => e2 h.2)] at hA
          have HA2 := hide hA
          have f2 : (u2 == rd) = false := by rw [beq_eq_false_iff_ne]; exact e2
          have f1 : (u1 == rt) = true := by rw [beq_iff_eq]; exact e1
          clear hA HI HA e1 e2
          go_wp2_with fail
          go_ret
          rw [← unhide HA2]
          exact told_four (unhide HBg) (unhide HO).1 (unhide HO).2.1 (unhide HO).2.2.1 (unhide HO).2.2.2
      · have hA := unhide HA
        rw [if_neg (fun h => e1 h.1)] at hA
        have HA2 := hide hA
        have f1 : (u1 == rt) = false := by rw [beq_eq_false_iff_ne]; exact e1
        clear hA HI HA e1
        go_wp2_with fail
        go_ret
        rw [← unhide HA2]
        exact told_four (unhide HBg) (unhide HO).1 (unhide HO).2.1 (unhide HO).2.2.1 (unhide HO).2.2.2
end Go.Proofs.YtmlbphmbffkdnaaGreat
