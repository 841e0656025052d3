/-
  Texts of the proof, what it needs of them: Lawmt.
-/
import Derived.Test.YtmlbphmbffkdnaaGt29
import Derived.Test.YtmlbphmbffkdnaaGt34
import Derived.Test.YtmlbphmbffkdnaaGt44
import Derived.Test.YtmlbphmbffkdnaaGt47
import Derived.Test.YtmlbphmbffkdnaaGt48
import Derived.Test.YtmlbphmbffkdnaaGt49
namespace Go.Proofs.Ytmlbphmbffkdnaa
open Go.RowKit
set_option linter.unusedVariables false
set_option maxRecDepth 100000

theorem HOwn.len2 {w : World} {base : Nat} {q : HP} {h : House} (o : HOwn w base q h) : HLen2 q := by
  obtain ⟨a0, k0, a1, k1, a2, k2, a4, k4, a5, k5⟩ := q
  obtain ⟨o0, o1, o2, o4, o5, -⟩ := o
  refine ⟨fun e => ?_, fun e => ?_, fun e => ?_⟩
  · dsimp only at e; subst e; exact own_cap0 o1
  · dsimp only at e; subst e; exact own_cap0 o4
  · dsimp only at e; subst e; exact own_cap0 o5
theorem small_tick {h : House} (hs : Small h) : Small (mtickH h) := by
  unfold mtickH
  split
  · split
    · exact hs
    · obtain ⟨es, pu, ds, cl, nu, sa⟩ := h
      obtain ⟨h0, h1, h2, h4, h5⟩ := hs
      refine ⟨h0, ?_, ?_, h4, h5⟩
      · show (tickP _ _ _).length ≤ _
        rw [tickP_len]; exact h1
      · show (List.map _ _).length ≤ _
        rw [List.length_map]; exact h2
  · exact ⟨by simp, by simp, by simp, by simp, by simp⟩
theorem grown_any {a b : World} (g : Nat) (h : a.grownBy b none) : a.grownBy b (some g) := ⟨h.os, h.tape, h.output, h.size, fun i hi _ => h.block i hi (by simp)⟩
def KeptM (A : World) (bm : Nat) (qm : HP) (h9 : House) (g7 : Nat) (vs : List Value) (W : World) : Prop := Below A.heap.size A W ∧ HOwn W bm qm h9 ∧ Box W g7 vs
theorem keptM_step {A : World} {bm lim : Nat} {qm q0 : HP} {h9 h : House} {g7 : Nat} {vs : List Value} (hl : A.heap.size < lim) (hlim : lim ≤ bm) (hg7 : lim ≤ g7) (hrow : ∀ row, HBlk q0 h row → ∀ b, row = some b → A.heap.size ≤ b ∧ b < lim) :
    ∀ a b row, KeptM A bm qm h9 g7 vs a → a.grownBy b row → HBlk q0 h row → KeptM A bm qm h9 g7 vs b := by
  intro a b row hk hg hr
  refine ⟨grown_below hk.1 hg (fun k hk2 => (hrow row hr k hk2).1), ?_, box_kpt hk.2.2 hg (fun e => ?_)⟩
  · rcases row with _ | g
    · exact hk.2.1.kptB (grown_any A.heap.size hg) (by omega)
    · exact hk.2.1.kptB hg (by have := (hrow _ hr g rfl).2; omega)
  · have := (hrow row hr g7 e.symm).2; omega

set_option maxHeartbeats 8000000 in
theorem law15 (h : House) (q : HP) (w : World) (hr : HRow w q h) (hL : HLen h) :
    Calls Try.prog 15 #[hV q h] w (Holds w) := by
  obtain ⟨es, pu, ds, cl, nu, sa⟩ := h
  obtain ⟨a0, k0, a1, k1, a2, k2, a4, k4, a5, k5⟩ := q
  have HR := hide hr
  have HL := hide hL
  clear hr hL
  have HB := hide (Below.refl w.heap.size w)
  replace HB := hide (below_al (o := .cells #[.slice a0 es.length k0, .slice a1 pu.length k1, .slice a2 ds.length k2, .int .i64 cl, .slice a4 nu.length k4, .slice a5 sa.length k5] 96) (unhide HB))
  have HX := hide (box_new w [.slice a0 es.length k0, .slice a1 pu.length k1, .slice a2 ds.length k2, .int .i64 cl, .slice a4 nu.length k4, .slice a5 sa.length k5] 96 (by simp [Value.oneCell']))
  (try simp only [World.size_alloc] at HX)
  by_cases ht : tot ⟨es, pu, ds, cl, nu, sa⟩ ≤ 1048576
  case neg =>
    have hm : (-1 : Int) < 0 := by omega
    have x0 := (unhide HX).cell 0 rfl
    have x1 := (unhide HX).cell 1 rfl
    have x2 := (unhide HX).cell 2 rfl
    have x3 := (unhide HX).cell 3 rfl
    have x4 := (unhide HX).cell 4 rfl
    have x5 := (unhide HX).cell 5 rfl
    go_enter Try.func15, Try.ntmps15
    go_wp2_with fail
    refine (sgM ⟨es, pu, ds, cl, nu, sa⟩ ⟨a0, k0, a1, k1, a2, k2, a4, k4, a5, k5⟩ _ (unhide HL)).mono ?_
    rintro e w1 ⟨rfl, hb⟩
    rw [if_neg ht]
    (try clear x0 x1 x2 x3 x4 x5)
    replace HB := hide (below_tr (unhide HB) hb)
    replace HX := hide ((unhide HX).bel hb)
    clear hb
    have x0 := (unhide HX).cell 0 rfl
    have x1 := (unhide HX).cell 1 rfl
    have x2 := (unhide HX).cell 2 rfl
    have x3 := (unhide HX).cell 3 rfl
    have x4 := (unhide HX).cell 4 rfl
    have x5 := (unhide HX).cell 5 rfl
    go_wp2_with fail
    go_ret
    exact ⟨rfl, unhide HB⟩
  obtain ⟨l, hl⟩ : ∃ l : Nat, (1048576 : Int) - (tot ⟨es, pu, ds, cl, nu, sa⟩ : Int) = (l : Int) := ⟨1048576 - tot ⟨es, pu, ds, cl, nu, sa⟩, by omega⟩
  have hl0 : ¬ ((l : Int) < 0) := by omega
  have hs := small_of ht
  have hs2 : ds.length ≤ 1048576 := hs.2.2.1
  have x0 := (unhide HX).cell 0 rfl
  have x1 := (unhide HX).cell 1 rfl
  have x2 := (unhide HX).cell 2 rfl
  have x3 := (unhide HX).cell 3 rfl
  have x4 := (unhide HX).cell 4 rfl
  have x5 := (unhide HX).cell 5 rfl
  go_enter Try.func15, Try.ntmps15
  go_wp2_with fail
  refine (sgM ⟨es, pu, ds, cl, nu, sa⟩ ⟨a0, k0, a1, k1, a2, k2, a4, k4, a5, k5⟩ _ (unhide HL)).mono ?_
  rintro e w1 ⟨rfl, hb⟩
  rw [if_pos ht, hl]
  (try clear x0 x1 x2 x3 x4 x5)
  replace HB := hide (below_tr (unhide HB) hb)
  replace HX := hide ((unhide HX).bel hb)
  clear hb
  have x0 := (unhide HX).cell 0 rfl
  have x1 := (unhide HX).cell 1 rfl
  have x2 := (unhide HX).cell 2 rfl
  have x3 := (unhide HX).cell 3 rfl
  have x4 := (unhide HX).cell 4 rfl
  have x5 := (unhide HX).cell 5 rfl
  go_wp2_with fail
  have hs9 := small_tick hs
  obtain ⟨⟨es9, pu9, ds9, cl9, nu9, sa9⟩, HH9⟩ : ∃ X, Hid (mtickH ⟨es, pu, ds, cl, nu, sa⟩ = X) := ⟨_, rfl⟩
  obtain ⟨bb, HB9⟩ : ∃ X, Hid (mtickB ⟨es, pu, ds, cl, nu, sa⟩ = X) := ⟨_, rfl⟩
  rw [unhide HH9] at hs9
  have HS9 := hide hs9
  clear hs9
  refine (c83 ⟨es, pu, ds, cl, nu, sa⟩ ⟨a0, k0, a1, k1, a2, k2, a4, k4, a5, k5⟩ _ hs ((unhide HR).bel (unhide HB))).mono ?_
  rintro e w2 ⟨⟨bs0, js0, bs1, js1, bs2, js2, bs4, js4, bs5, js5⟩, rfl, ho, hb⟩
  (try clear x0 x1 x2 x3 x4 x5)
  replace HB := hide (below_tr (unhide HB) hb)
  replace HX := hide ((unhide HX).bel hb)
  have HS := hide (ho)
  clear hb ho
  have x0 := (unhide HX).cell 0 rfl
  have x1 := (unhide HX).cell 1 rfl
  have x2 := (unhide HX).cell 2 rfl
  have x3 := (unhide HX).cell 3 rfl
  have x4 := (unhide HX).cell 4 rfl
  have x5 := (unhide HX).cell 5 rfl
  go_wp2_with fail
  refine (c32 ⟨es, pu, ds, cl, nu, sa⟩ ⟨bs0, js0, bs1, js1, bs2, js2, bs4, js4, bs5, js5⟩ _ hs (unhide HS).rd).mono ?_
  rintro e w3 ⟨⟨bw0, jw0, bw1, jw1, bw2, jw2, bw4, jw4, bw5, jw5⟩, rfl, ho, hb⟩
  rw [unhide HH9] at ho
  rw [unhide HH9, unhide HB9]
  (try clear x0 x1 x2 x3 x4 x5)
  replace HB := hide (below_tr (unhide HB) hb)
  replace HX := hide ((unhide HX).bel hb)
  clear HS
  have HW9 := hide (ho.rd)
  clear hb ho
  have x0 := (unhide HX).cell 0 rfl
  have x1 := (unhide HX).cell 1 rfl
  have x2 := (unhide HX).cell 2 rfl
  have x3 := (unhide HX).cell 3 rfl
  have x4 := (unhide HX).cell 4 rfl
  have x5 := (unhide HX).cell 5 rfl
  (try clear x0 x1 x2 x3 x4 x5)
  replace HB := hide (below_al (o := .cells #[.slice bw0 es9.length jw0, .slice bw1 pu9.length jw1, .slice bw2 ds9.length jw2, .int .i64 cl9, .slice bw4 nu9.length jw4, .slice bw5 sa9.length jw5] 28) (unhide HB))
  replace HX := hide ((unhide HX).bel (below_a (.cells #[.slice bw0 es9.length jw0, .slice bw1 pu9.length jw1, .slice bw2 ds9.length jw2, .int .i64 cl9, .slice bw4 nu9.length jw4, .slice bw5 sa9.length jw5] 28)))
  replace HW9 := hide ((unhide HW9).bel (below_a (.cells #[.slice bw0 es9.length jw0, .slice bw1 pu9.length jw1, .slice bw2 ds9.length jw2, .int .i64 cl9, .slice bw4 nu9.length jw4, .slice bw5 sa9.length jw5] 28)))
  have HQ4 := hide (box_new w3 [.slice bw0 es9.length jw0, .slice bw1 pu9.length jw1, .slice bw2 ds9.length jw2, .int .i64 cl9, .slice bw4 nu9.length jw4, .slice bw5 sa9.length jw5] 28 (by simp [Value.oneCell']))
  have x0 := (unhide HX).cell 0 rfl
  have x1 := (unhide HX).cell 1 rfl
  have x2 := (unhide HX).cell 2 rfl
  have x3 := (unhide HX).cell 3 rfl
  have x4 := (unhide HX).cell 4 rfl
  have x5 := (unhide HX).cell 5 rfl
  have u0 := (unhide HQ4).cell 0 rfl
  have u1 := (unhide HQ4).cell 1 rfl
  have u2 := (unhide HQ4).cell 2 rfl
  have u3 := (unhide HQ4).cell 3 rfl
  have u4 := (unhide HQ4).cell 4 rfl
  have u5 := (unhide HQ4).cell 5 rfl
  go_wp2_with fail
  (try clear x0 x1 x2 x3 x4 x5 u0 u1 u2 u3 u4 u5)
  have hA4 := (unhide HQ4).lt
  obtain ⟨A, hA⟩ : ∃ A, A = w3.alloc (.cells #[.slice bw0 es9.length jw0, .slice bw1 pu9.length jw1, .slice bw2 ds9.length jw2, .int .i64 cl9, .slice bw4 nu9.length jw4, .slice bw5 sa9.length jw5] 28) := ⟨_, rfl⟩
  rw [← hA] at HB HX HW9 HQ4 hA4 ⊢
  clear hA
  have HBA := hide (unhide HB)
  have HXA := hide (unhide HX)
  have HWA := hide (unhide HW9)
  have HQA := hide (unhide HQ4)
  have HA : Hid (BelowOf A A) := Below.refl _ _
  have x0 := (unhide HX).cell 0 rfl
  have x1 := (unhide HX).cell 1 rfl
  have x2 := (unhide HX).cell 2 rfl
  have x3 := (unhide HX).cell 3 rfl
  have x4 := (unhide HX).cell 4 rfl
  have x5 := (unhide HX).cell 5 rfl
  have u0 := (unhide HQ4).cell 0 rfl
  have u1 := (unhide HQ4).cell 1 rfl
  have u2 := (unhide HQ4).cell 2 rfl
  have u3 := (unhide HQ4).cell 3 rfl
  have u4 := (unhide HQ4).cell 4 rfl
  have u5 := (unhide HQ4).cell 5 rfl
  refine (c83 ⟨es, pu, ds, cl, nu, sa⟩ ⟨a0, k0, a1, k1, a2, k2, a4, k4, a5, k5⟩ _ hs ((unhide HR).bel (unhide HB))).mono ?_
  rintro e w4 ⟨⟨b00, j00, b01, j01, b02, j02, b04, j04, b05, j05⟩, rfl, ho, hb⟩
  (try clear x0 x1 x2 x3 x4 x5 u0 u1 u2 u3 u4 u5)
  replace HB := hide (below_tr (unhide HB) hb)
  replace HX := hide ((unhide HX).bel hb)
  replace HW9 := hide ((unhide HW9).bel hb)
  replace HQ4 := hide ((unhide HQ4).bel hb)
  replace HA := hide ((unhide HA).bel hb)
  have H0 := hide (ho)
  clear hb ho
  have x0 := (unhide HX).cell 0 rfl
  have x1 := (unhide HX).cell 1 rfl
  have x2 := (unhide HX).cell 2 rfl
  have x3 := (unhide HX).cell 3 rfl
  have x4 := (unhide HX).cell 4 rfl
  have x5 := (unhide HX).cell 5 rfl
  have u0 := (unhide HQ4).cell 0 rfl
  have u1 := (unhide HQ4).cell 1 rfl
  have u2 := (unhide HQ4).cell 2 rfl
  have u3 := (unhide HQ4).cell 3 rfl
  have u4 := (unhide HQ4).cell 4 rfl
  have u5 := (unhide HQ4).cell 5 rfl
  have HROW := hide (fun row hr => (unhide H0).blk (row := row) hr)
  have h4A : A.heap.size ≤ w4.heap.size := (unhide HA).size
  (try clear x0 x1 x2 x3 x4 x5 u0 u1 u2 u3 u4 u5)
  replace HB := hide (below_al (o := .cells #[.slice b00 es.length j00, .slice b01 pu.length j01, .slice b02 ds.length j02, .int .i64 cl, .slice b04 nu.length j04, .slice b05 sa.length j05] 28) (unhide HB))
  replace HX := hide ((unhide HX).bel (below_a (.cells #[.slice b00 es.length j00, .slice b01 pu.length j01, .slice b02 ds.length j02, .int .i64 cl, .slice b04 nu.length j04, .slice b05 sa.length j05] 28)))
  replace HW9 := hide ((unhide HW9).bel (below_a (.cells #[.slice b00 es.length j00, .slice b01 pu.length j01, .slice b02 ds.length j02, .int .i64 cl, .slice b04 nu.length j04, .slice b05 sa.length j05] 28)))
  replace HQ4 := hide ((unhide HQ4).bel (below_a (.cells #[.slice b00 es.length j00, .slice b01 pu.length j01, .slice b02 ds.length j02, .int .i64 cl, .slice b04 nu.length j04, .slice b05 sa.length j05] 28)))
  replace HA := hide ((unhide HA).bel (below_a (.cells #[.slice b00 es.length j00, .slice b01 pu.length j01, .slice b02 ds.length j02, .int .i64 cl, .slice b04 nu.length j04, .slice b05 sa.length j05] 28)))
  replace H0 := hide ((unhide H0).bel (below_a (.cells #[.slice b00 es.length j00, .slice b01 pu.length j01, .slice b02 ds.length j02, .int .i64 cl, .slice b04 nu.length j04, .slice b05 sa.length j05] 28)))
  have HQ6 := hide (box_new w4 [.slice b00 es.length j00, .slice b01 pu.length j01, .slice b02 ds.length j02, .int .i64 cl, .slice b04 nu.length j04, .slice b05 sa.length j05] 28 (by simp [Value.oneCell']))
  have x0 := (unhide HX).cell 0 rfl
  have x1 := (unhide HX).cell 1 rfl
  have x2 := (unhide HX).cell 2 rfl
  have x3 := (unhide HX).cell 3 rfl
  have x4 := (unhide HX).cell 4 rfl
  have x5 := (unhide HX).cell 5 rfl
  have u0 := (unhide HQ4).cell 0 rfl
  have u1 := (unhide HQ4).cell 1 rfl
  have u2 := (unhide HQ4).cell 2 rfl
  have u3 := (unhide HQ4).cell 3 rfl
  have u4 := (unhide HQ4).cell 4 rfl
  have u5 := (unhide HQ4).cell 5 rfl
  have q0 := (unhide HQ6).cell 0 rfl
  have q1 := (unhide HQ6).cell 1 rfl
  have q2 := (unhide HQ6).cell 2 rfl
  have q3 := (unhide HQ6).cell 3 rfl
  have q4 := (unhide HQ6).cell 4 rfl
  have q5 := (unhide HQ6).cell 5 rfl
  go_wp2_with fail
  refine (c31 ⟨es, pu, ds, cl, nu, sa⟩ ⟨b00, j00, b01, j01, b02, j02, b04, j04, b05, j05⟩ _ hs (unhide H0).len2 (unhide H0).rd).mono ?_
  rintro e w5 ⟨⟨bm0, jm0, bm1, jm1, bm2, jm2, bm4, jm4, bm5, jm5⟩, rfl, ho, hb⟩
  rw [unhide HH9] at ho
  rw [unhide HH9, unhide HB9]
  have h45 := hb.size
  simp only [World.size_alloc] at ho h45
  (try clear x0 x1 x2 x3 x4 x5 u0 u1 u2 u3 u4 u5 q0 q1 q2 q3 q4 q5)
  replace HB := hide (below_tr (unhide HB) hb)
  replace HX := hide ((unhide HX).bel hb)
  replace HW9 := hide ((unhide HW9).bel hb)
  replace HQ4 := hide ((unhide HQ4).bel hb)
  replace HA := hide ((unhide HA).bel hb)
  replace H0 := hide ((unhide H0).bel hb)
  replace HQ6 := hide ((unhide HQ6).bel hb)
  have HM := hide (ho)
  clear hb ho
  have x0 := (unhide HX).cell 0 rfl
  have x1 := (unhide HX).cell 1 rfl
  have x2 := (unhide HX).cell 2 rfl
  have x3 := (unhide HX).cell 3 rfl
  have x4 := (unhide HX).cell 4 rfl
  have x5 := (unhide HX).cell 5 rfl
  have u0 := (unhide HQ4).cell 0 rfl
  have u1 := (unhide HQ4).cell 1 rfl
  have u2 := (unhide HQ4).cell 2 rfl
  have u3 := (unhide HQ4).cell 3 rfl
  have u4 := (unhide HQ4).cell 4 rfl
  have u5 := (unhide HQ4).cell 5 rfl
  have q0 := (unhide HQ6).cell 0 rfl
  have q1 := (unhide HQ6).cell 1 rfl
  have q2 := (unhide HQ6).cell 2 rfl
  have q3 := (unhide HQ6).cell 3 rfl
  have q4 := (unhide HQ6).cell 4 rfl
  have q5 := (unhide HQ6).cell 5 rfl
  have HNI := hide ((unhide HM).notIn (g := w5.heap.size) (Nat.le_refl _))
  (try clear x0 x1 x2 x3 x4 x5 u0 u1 u2 u3 u4 u5 q0 q1 q2 q3 q4 q5)
  replace HB := hide (below_al (o := .cells #[.slice bm0 es9.length jm0, .slice bm1 pu9.length jm1, .slice bm2 ds9.length jm2, .int .i64 cl9, .slice bm4 nu9.length jm4, .slice bm5 sa9.length jm5] 28) (unhide HB))
  replace HX := hide ((unhide HX).bel (below_a (.cells #[.slice bm0 es9.length jm0, .slice bm1 pu9.length jm1, .slice bm2 ds9.length jm2, .int .i64 cl9, .slice bm4 nu9.length jm4, .slice bm5 sa9.length jm5] 28)))
  replace HW9 := hide ((unhide HW9).bel (below_a (.cells #[.slice bm0 es9.length jm0, .slice bm1 pu9.length jm1, .slice bm2 ds9.length jm2, .int .i64 cl9, .slice bm4 nu9.length jm4, .slice bm5 sa9.length jm5] 28)))
  replace HQ4 := hide ((unhide HQ4).bel (below_a (.cells #[.slice bm0 es9.length jm0, .slice bm1 pu9.length jm1, .slice bm2 ds9.length jm2, .int .i64 cl9, .slice bm4 nu9.length jm4, .slice bm5 sa9.length jm5] 28)))
  replace HA := hide ((unhide HA).bel (below_a (.cells #[.slice bm0 es9.length jm0, .slice bm1 pu9.length jm1, .slice bm2 ds9.length jm2, .int .i64 cl9, .slice bm4 nu9.length jm4, .slice bm5 sa9.length jm5] 28)))
  replace H0 := hide ((unhide H0).bel (below_a (.cells #[.slice bm0 es9.length jm0, .slice bm1 pu9.length jm1, .slice bm2 ds9.length jm2, .int .i64 cl9, .slice bm4 nu9.length jm4, .slice bm5 sa9.length jm5] 28)))
  replace HQ6 := hide ((unhide HQ6).bel (below_a (.cells #[.slice bm0 es9.length jm0, .slice bm1 pu9.length jm1, .slice bm2 ds9.length jm2, .int .i64 cl9, .slice bm4 nu9.length jm4, .slice bm5 sa9.length jm5] 28)))
  replace HM := hide ((unhide HM).bel (below_a (.cells #[.slice bm0 es9.length jm0, .slice bm1 pu9.length jm1, .slice bm2 ds9.length jm2, .int .i64 cl9, .slice bm4 nu9.length jm4, .slice bm5 sa9.length jm5] 28)))
  have HQ7 := hide (box_new w5 [.slice bm0 es9.length jm0, .slice bm1 pu9.length jm1, .slice bm2 ds9.length jm2, .int .i64 cl9, .slice bm4 nu9.length jm4, .slice bm5 sa9.length jm5] 28 (by simp [Value.oneCell']))
  have x0 := (unhide HX).cell 0 rfl
  have x1 := (unhide HX).cell 1 rfl
  have x2 := (unhide HX).cell 2 rfl
  have x3 := (unhide HX).cell 3 rfl
  have x4 := (unhide HX).cell 4 rfl
  have x5 := (unhide HX).cell 5 rfl
  have u0 := (unhide HQ4).cell 0 rfl
  have u1 := (unhide HQ4).cell 1 rfl
  have u2 := (unhide HQ4).cell 2 rfl
  have u3 := (unhide HQ4).cell 3 rfl
  have u4 := (unhide HQ4).cell 4 rfl
  have u5 := (unhide HQ4).cell 5 rfl
  have q0 := (unhide HQ6).cell 0 rfl
  have q1 := (unhide HQ6).cell 1 rfl
  have q2 := (unhide HQ6).cell 2 rfl
  have q3 := (unhide HQ6).cell 3 rfl
  have q4 := (unhide HQ6).cell 4 rfl
  have q5 := (unhide HQ6).cell 5 rfl
  have v0 := (unhide HQ7).cell 0 rfl
  have v1 := (unhide HQ7).cell 1 rfl
  have v2 := (unhide HQ7).cell 2 rfl
  have v3 := (unhide HQ7).cell 3 rfl
  have v4 := (unhide HQ7).cell 4 rfl
  have v5 := (unhide HQ7).cell 5 rfl
  go_wp2_with fail
  have h57 := (unhide HQ7).lt
  refine (sameH ⟨es9, pu9, ds9, cl9, nu9, sa9⟩ ⟨bm0, jm0, bm1, jm1, bm2, jm2, bm4, jm4, bm5, jm5⟩ ⟨bw0, jw0, bw1, jw1, bw2, jw2, bw4, jw4, bw5, jw5⟩ _ (unhide HS9) (unhide HM).rd (unhide HW9)).mono ?_
  rintro e w6 ⟨rfl, hb⟩
  (try clear x0 x1 x2 x3 x4 x5 u0 u1 u2 u3 u4 u5 q0 q1 q2 q3 q4 q5 v0 v1 v2 v3 v4 v5)
  replace HB := hide (below_tr (unhide HB) hb)
  replace HX := hide ((unhide HX).bel hb)
  replace HW9 := hide ((unhide HW9).bel hb)
  replace HQ4 := hide ((unhide HQ4).bel hb)
  replace HA := hide ((unhide HA).bel hb)
  replace H0 := hide ((unhide H0).bel hb)
  replace HQ6 := hide ((unhide HQ6).bel hb)
  replace HM := hide ((unhide HM).bel hb)
  replace HQ7 := hide ((unhide HQ7).bel hb)
  clear hb
  have x0 := (unhide HX).cell 0 rfl
  have x1 := (unhide HX).cell 1 rfl
  have x2 := (unhide HX).cell 2 rfl
  have x3 := (unhide HX).cell 3 rfl
  have x4 := (unhide HX).cell 4 rfl
  have x5 := (unhide HX).cell 5 rfl
  have u0 := (unhide HQ4).cell 0 rfl
  have u1 := (unhide HQ4).cell 1 rfl
  have u2 := (unhide HQ4).cell 2 rfl
  have u3 := (unhide HQ4).cell 3 rfl
  have u4 := (unhide HQ4).cell 4 rfl
  have u5 := (unhide HQ4).cell 5 rfl
  have q0 := (unhide HQ6).cell 0 rfl
  have q1 := (unhide HQ6).cell 1 rfl
  have q2 := (unhide HQ6).cell 2 rfl
  have q3 := (unhide HQ6).cell 3 rfl
  have q4 := (unhide HQ6).cell 4 rfl
  have q5 := (unhide HQ6).cell 5 rfl
  have v0 := (unhide HQ7).cell 0 rfl
  have v1 := (unhide HQ7).cell 1 rfl
  have v2 := (unhide HQ7).cell 2 rfl
  have v3 := (unhide HQ7).cell 3 rfl
  have v4 := (unhide HQ7).cell 4 rfl
  have v5 := (unhide HQ7).cell 5 rfl
  go_wp2_with fail
  (try clear x0 x1 x2 x3 x4 x5 u0 u1 u2 u3 u4 u5 q0 q1 q2 q3 q4 q5 v0 v1 v2 v3 v4 v5)
  refine wp_region_held_drew (S := fun w' => Below w6.heap.size w6 w') (by kernel_rfl) (below_drew w6) (fun hHeld => ?_)
  refine wpAnyH_take (i := 0) (oi := { dst := some 41, op := _, type := _, pos := _, after := _, guard := _ }) (v := ?_) rfl (by kernel_rfl) (by kernel_rfl) (by kernel_rfl) (fun _ _ _ h => h) (Or.inl ⟨by rfl, ?_⟩) (by assumption) ?_
  rotate_left
  · intro w hSw
    have hT := (unhide HX).below hSw; have x0 := hT.cell 0 rfl; have x1 := hT.cell 1 rfl; have x2 := hT.cell 2 rfl; have x3 := hT.cell 3 rfl; have x4 := hT.cell 4 rfl; have x5 := hT.cell 5 rfl; clear hT; have hT := (unhide HQ4).below hSw; have u0 := hT.cell 0 rfl; have u1 := hT.cell 1 rfl; have u2 := hT.cell 2 rfl; have u3 := hT.cell 3 rfl; have u4 := hT.cell 4 rfl; have u5 := hT.cell 5 rfl; clear hT; have hT := (unhide HQ6).below hSw; have q0 := hT.cell 0 rfl; have q1 := hT.cell 1 rfl; have q2 := hT.cell 2 rfl; have q3 := hT.cell 3 rfl; have q4 := hT.cell 4 rfl; have q5 := hT.cell 5 rfl; clear hT; have hT := (unhide HQ7).below hSw; have v0 := hT.cell 0 rfl; have v1 := hT.cell 1 rfl; have v2 := hT.cell 2 rfl; have v3 := hT.cell 3 rfl; have v4 := hT.cell 4 rfl; have v5 := hT.cell 5 rfl; clear hT
    first | (go_simp; done) | (go_simp; with_reducible rfl) | with_reducible rfl | rfl
  try simp only [Act.put, List.setIfInBounds_toArray, List.set_cons_zero, List.set_cons_succ]
  refine wpAnyH_take (i := 1) (oi := { dst := some 42, op := _, type := _, pos := _, after := _, guard := _ }) (v := ?_) rfl (by kernel_rfl) (by kernel_rfl) (by kernel_rfl) (fun _ _ _ h => h) (Or.inl ⟨by rfl, ?_⟩) (by assumption) ?_
  rotate_left
  · intro w hSw
    have hT := (unhide HX).below hSw; have x0 := hT.cell 0 rfl; have x1 := hT.cell 1 rfl; have x2 := hT.cell 2 rfl; have x3 := hT.cell 3 rfl; have x4 := hT.cell 4 rfl; have x5 := hT.cell 5 rfl; clear hT; have hT := (unhide HQ4).below hSw; have u0 := hT.cell 0 rfl; have u1 := hT.cell 1 rfl; have u2 := hT.cell 2 rfl; have u3 := hT.cell 3 rfl; have u4 := hT.cell 4 rfl; have u5 := hT.cell 5 rfl; clear hT; have hT := (unhide HQ6).below hSw; have q0 := hT.cell 0 rfl; have q1 := hT.cell 1 rfl; have q2 := hT.cell 2 rfl; have q3 := hT.cell 3 rfl; have q4 := hT.cell 4 rfl; have q5 := hT.cell 5 rfl; clear hT; have hT := (unhide HQ7).below hSw; have v0 := hT.cell 0 rfl; have v1 := hT.cell 1 rfl; have v2 := hT.cell 2 rfl; have v3 := hT.cell 3 rfl; have v4 := hT.cell 4 rfl; have v5 := hT.cell 5 rfl; clear hT
    first | (go_simp; done) | (go_simp; with_reducible rfl) | with_reducible rfl | rfl
  try simp only [Act.put, List.setIfInBounds_toArray, List.set_cons_zero, List.set_cons_succ]
  have HD := below_drew w6
  generalize w6.drew = V0 at *
  refine wpAnyH_ready (rs := [2]) (by kernel_rfl) (by simp) ?_
  refine AllReadyH.cons (o := { dst := some 43, op := _, type := _, pos := _, after := _, guard := _ }) rfl (fun K hK => ?_) AllReadyH.nil
  go_simp
  go_at_call 83
  refine (c83 ⟨es, pu, ds, cl, nu, sa⟩ ⟨a0, k0, a1, k1, a2, k2, a4, k4, a5, k5⟩ _ hs ((unhide HR).bel ((unhide HB).trans (HD.mono (unhide HB).size)))).mono ?_
  rintro e V1 ⟨⟨bz0, jz0, bz1, jz1, bz2, jz2, bz4, jz4, bz5, jz5⟩, rfl, ho, hb⟩
  replace HD := below_then HD hb
  clear hb
  have hoV := ho
  clear ho
  try go_wp2_with fail
  refine hK.out _ _ HD (fun hHeld => ?_)
  clear hK K hHeld
  try simp only [Act.put, List.setIfInBounds_toArray, List.set_cons_zero, List.set_cons_succ]
  refine wpAnyH_ready (rs := [3]) (by kernel_rfl) (by simp) ?_
  refine AllReadyH.cons (o := { dst := some 44, op := _, type := _, pos := _, after := _, guard := _ }) rfl (fun K hK => ?_) AllReadyH.nil
  go_simp
  go_at_call 84
  refine (sameH ⟨es, pu, ds, cl, nu, sa⟩ ⟨b00, j00, b01, j01, b02, j02, b04, j04, b05, j05⟩ ⟨bz0, jz0, bz1, jz1, bz2, jz2, bz4, jz4, bz5, jz5⟩ _ hs (((unhide H0).bel HD).rd) (hoV.rd)).mono ?_
  rintro e V2 ⟨rfl, hb⟩
  replace hoV := hoV.bel hb
  replace HD := below_then HD hb
  clear hb
  try go_wp2_with fail
  refine hK.out _ _ HD (fun hHeld => ?_)
  clear hK K hHeld
  try simp only [Act.put, List.setIfInBounds_toArray, List.set_cons_zero, List.set_cons_succ]
  refine wpAnyH_take (i := 4) (oi := { dst := some 45, op := _, type := _, pos := _, after := _, guard := _ }) (v := ?_) rfl (by kernel_rfl) (by kernel_rfl) (by kernel_rfl) (fun _ _ _ h => h) (Or.inl ⟨by rfl, ?_⟩) (by assumption) ?_
  rotate_left
  · intro w hSw
    first | (go_simp; done) | (go_simp; with_reducible rfl) | with_reducible rfl | rfl
  try simp only [Act.put, List.setIfInBounds_toArray, List.set_cons_zero, List.set_cons_succ]
  refine wpAnyH_done (by kernel_rfl) ?_ _
  replace HB := hide (below_tr (unhide HB) HD)
  replace HX := hide ((unhide HX).bel HD)
  replace HW9 := hide ((unhide HW9).bel HD)
  replace HQ4 := hide ((unhide HQ4).bel HD)
  replace HA := hide ((unhide HA).bel HD)
  replace H0 := hide ((unhide H0).bel HD)
  replace HQ6 := hide ((unhide HQ6).bel HD)
  replace HM := hide ((unhide HM).bel HD)
  replace HQ7 := hide ((unhide HQ7).bel HD)
  have HhoV := hide hoV
  clear HD hoV
  have x0 := (unhide HX).cell 0 rfl
  have x1 := (unhide HX).cell 1 rfl
  have x2 := (unhide HX).cell 2 rfl
  have x3 := (unhide HX).cell 3 rfl
  have x4 := (unhide HX).cell 4 rfl
  have x5 := (unhide HX).cell 5 rfl
  have u0 := (unhide HQ4).cell 0 rfl
  have u1 := (unhide HQ4).cell 1 rfl
  have u2 := (unhide HQ4).cell 2 rfl
  have u3 := (unhide HQ4).cell 3 rfl
  have u4 := (unhide HQ4).cell 4 rfl
  have u5 := (unhide HQ4).cell 5 rfl
  have q0 := (unhide HQ6).cell 0 rfl
  have q1 := (unhide HQ6).cell 1 rfl
  have q2 := (unhide HQ6).cell 2 rfl
  have q3 := (unhide HQ6).cell 3 rfl
  have q4 := (unhide HQ6).cell 4 rfl
  have q5 := (unhide HQ6).cell 5 rfl
  have v0 := (unhide HQ7).cell 0 rfl
  have v1 := (unhide HQ7).cell 1 rfl
  have v2 := (unhide HQ7).cell 2 rfl
  have v3 := (unhide HQ7).cell 3 rfl
  have v4 := (unhide HQ7).cell 4 rfl
  have v5 := (unhide HQ7).cell 5 rfl
  go_wp2_with fail
  clear HhoV
  have n5 : ¬ (((hk5 ⟨es, pu, ds, cl, nu, sa⟩ : Nat) : Int) < 0) := by omega
  have n59 : ¬ (((hk5 ⟨es9, pu9, ds9, cl9, nu9, sa9⟩ : Nat) : Int) < 0) := by omega
  refine (markHP (KeptM A (w4.heap.size + 1) ⟨bm0, jm0, bm1, jm1, bm2, jm2, bm4, jm4, bm5, jm5⟩ ⟨es9, pu9, ds9, cl9, nu9, sa9⟩ w5.heap.size [.slice bm0 es9.length jm0, .slice bm1 pu9.length jm1, .slice bm2 ds9.length jm2, .int .i64 cl9, .slice bm4 nu9.length jm4, .slice bm5 sa9.length jm5]) ⟨es, pu, ds, cl, nu, sa⟩ ⟨b00, j00, b01, j01, b02, j02, b04, j04, b05, j05⟩ A.heap.size _ hs (unhide H0) ⟨unhide HA, unhide HM, unhide HQ7⟩ (keptM_step (lim := w4.heap.size + 1) (by omega) (Nat.le_refl _) (by omega) (fun row hr b hb => ⟨(unhide HROW row hr b hb).1, Nat.lt_succ_of_lt (unhide HROW row hr b hb).2⟩))).mono ?_
  rintro e w7 ⟨rfl, -, -, hkm⟩
  (try clear x0 x1 x2 x3 x4 x5 u0 u1 u2 u3 u4 u5 q0 q1 q2 q3 q4 q5 v0 v1 v2 v3 v4 v5)
  clear HB HX HW9 HQ4 HA H0 HQ6 HM HQ7 HROW
  have HA := hide hkm.1
  have HM := hide hkm.2.1
  have HQ7 := hide hkm.2.2
  clear hkm
  have HX := hide ((unhide HXA).bel (unhide HA))
  have HW9 := hide ((unhide HWA).bel (unhide HA))
  have HQ4 := hide ((unhide HQA).bel (unhide HA))
  have HB := hide (below_tr (unhide HBA) (unhide HA))
  replace HA : Hid (BelowOf A _) := unhide HA
  have x0 := (unhide HX).cell 0 rfl
  have x1 := (unhide HX).cell 1 rfl
  have x2 := (unhide HX).cell 2 rfl
  have x3 := (unhide HX).cell 3 rfl
  have x4 := (unhide HX).cell 4 rfl
  have x5 := (unhide HX).cell 5 rfl
  have u0 := (unhide HQ4).cell 0 rfl
  have u1 := (unhide HQ4).cell 1 rfl
  have u2 := (unhide HQ4).cell 2 rfl
  have u3 := (unhide HQ4).cell 3 rfl
  have u4 := (unhide HQ4).cell 4 rfl
  have u5 := (unhide HQ4).cell 5 rfl
  have v0 := (unhide HQ7).cell 0 rfl
  have v1 := (unhide HQ7).cell 1 rfl
  have v2 := (unhide HQ7).cell 2 rfl
  have v3 := (unhide HQ7).cell 3 rfl
  have v4 := (unhide HQ7).cell 4 rfl
  have v5 := (unhide HQ7).cell 5 rfl
  go_wp2_with fail
  refine (sameH ⟨es9, pu9, ds9, cl9, nu9, sa9⟩ ⟨bm0, jm0, bm1, jm1, bm2, jm2, bm4, jm4, bm5, jm5⟩ ⟨bw0, jw0, bw1, jw1, bw2, jw2, bw4, jw4, bw5, jw5⟩ _ (unhide HS9) (unhide HM).rd (unhide HW9)).mono ?_
  rintro e w8 ⟨rfl, hb⟩
  (try clear x0 x1 x2 x3 x4 x5 u0 u1 u2 u3 u4 u5 v0 v1 v2 v3 v4 v5)
  replace HB := hide (below_tr (unhide HB) hb)
  replace HX := hide ((unhide HX).bel hb)
  replace HW9 := hide ((unhide HW9).bel hb)
  replace HQ4 := hide ((unhide HQ4).bel hb)
  replace HA := hide ((unhide HA).bel hb)
  replace HM := hide ((unhide HM).bel hb)
  replace HQ7 := hide ((unhide HQ7).bel hb)
  clear hb
  have x0 := (unhide HX).cell 0 rfl
  have x1 := (unhide HX).cell 1 rfl
  have x2 := (unhide HX).cell 2 rfl
  have x3 := (unhide HX).cell 3 rfl
  have x4 := (unhide HX).cell 4 rfl
  have x5 := (unhide HX).cell 5 rfl
  have u0 := (unhide HQ4).cell 0 rfl
  have u1 := (unhide HQ4).cell 1 rfl
  have u2 := (unhide HQ4).cell 2 rfl
  have u3 := (unhide HQ4).cell 3 rfl
  have u4 := (unhide HQ4).cell 4 rfl
  have u5 := (unhide HQ4).cell 5 rfl
  have v0 := (unhide HQ7).cell 0 rfl
  have v1 := (unhide HQ7).cell 1 rfl
  have v2 := (unhide HQ7).cell 2 rfl
  have v3 := (unhide HQ7).cell 3 rfl
  have v4 := (unhide HQ7).cell 4 rfl
  have v5 := (unhide HQ7).cell 5 rfl
  go_wp2_with fail
  refine (markH ⟨es9, pu9, ds9, cl9, nu9, sa9⟩ ⟨bm0, jm0, bm1, jm1, bm2, jm2, bm4, jm4, bm5, jm5⟩ (w4.heap.size + 1) _ (unhide HS9) (unhide HM)).mono ?_
  rintro e w9 ⟨rfl, hh, hAA, hG⟩
  (try clear x0 x1 x2 x3 x4 x5 u0 u1 u2 u3 u4 u5 v0 v1 v2 v3 v4 v5)
  have HHD := hide hh
  have HQ7n := hide (hG _ _ (unhide HQ7) (unhide HNI))
  have HAn : Hid (BelowOf A _) := hAA A (by omega) (unhide HA)
  clear hh hAA hG HB HX HW9 HQ4 HA HM HQ7
  have HA := HAn
  have HQ7 := HQ7n
  clear HAn HQ7n
  have HX := hide ((unhide HXA).bel (unhide HA))
  have HW9 := hide ((unhide HWA).bel (unhide HA))
  have HQ4 := hide ((unhide HQA).bel (unhide HA))
  have HB := hide (below_tr (unhide HBA) (unhide HA))
  have x0 := (unhide HX).cell 0 rfl
  have x1 := (unhide HX).cell 1 rfl
  have x2 := (unhide HX).cell 2 rfl
  have x3 := (unhide HX).cell 3 rfl
  have x4 := (unhide HX).cell 4 rfl
  have x5 := (unhide HX).cell 5 rfl
  have u0 := (unhide HQ4).cell 0 rfl
  have u1 := (unhide HQ4).cell 1 rfl
  have u2 := (unhide HQ4).cell 2 rfl
  have u3 := (unhide HQ4).cell 3 rfl
  have u4 := (unhide HQ4).cell 4 rfl
  have u5 := (unhide HQ4).cell 5 rfl
  have v0 := (unhide HQ7).cell 0 rfl
  have v1 := (unhide HQ7).cell 1 rfl
  have v2 := (unhide HQ7).cell 2 rfl
  have v3 := (unhide HQ7).cell 3 rfl
  have v4 := (unhide HQ7).cell 4 rfl
  have v5 := (unhide HQ7).cell 5 rfl
  go_wp2_with fail
  refine (heldH ⟨es9, pu9, ds9, cl9, nu9, sa9⟩ ⟨bm0, jm0, bm1, jm1, bm2, jm2, bm4, jm4, bm5, jm5⟩ _ _ (unhide HS9) (unhide HHD)).mono ?_
  rintro e w10 ⟨rfl, hb⟩
  (try clear x0 x1 x2 x3 x4 x5 u0 u1 u2 u3 u4 u5 v0 v1 v2 v3 v4 v5)
  replace HB := hide (below_tr (unhide HB) hb)
  replace HX := hide ((unhide HX).bel hb)
  replace HW9 := hide ((unhide HW9).bel hb)
  replace HQ4 := hide ((unhide HQ4).bel hb)
  replace HA := hide ((unhide HA).bel hb)
  replace HQ7 := hide ((unhide HQ7).bel hb)
  replace HHD := hide ((unhide HHD).bel hb)
  clear hb
  have x0 := (unhide HX).cell 0 rfl
  have x1 := (unhide HX).cell 1 rfl
  have x2 := (unhide HX).cell 2 rfl
  have x3 := (unhide HX).cell 3 rfl
  have x4 := (unhide HX).cell 4 rfl
  have x5 := (unhide HX).cell 5 rfl
  have u0 := (unhide HQ4).cell 0 rfl
  have u1 := (unhide HQ4).cell 1 rfl
  have u2 := (unhide HQ4).cell 2 rfl
  have u3 := (unhide HQ4).cell 3 rfl
  have u4 := (unhide HQ4).cell 4 rfl
  have u5 := (unhide HQ4).cell 5 rfl
  have v0 := (unhide HQ7).cell 0 rfl
  have v1 := (unhide HQ7).cell 1 rfl
  have v2 := (unhide HQ7).cell 2 rfl
  have v3 := (unhide HQ7).cell 3 rfl
  have v4 := (unhide HQ7).cell 4 rfl
  have v5 := (unhide HQ7).cell 5 rfl
  go_wp2_with fail
  refine (c83 ⟨es, pu, ds, cl, nu, sa⟩ ⟨a0, k0, a1, k1, a2, k2, a4, k4, a5, k5⟩ _ hs ((unhide HR).bel (unhide HB))).mono ?_
  rintro e w11 ⟨⟨bn0, jn0, bn1, jn1, bn2, jn2, bn4, jn4, bn5, jn5⟩, rfl, ho, hb⟩
  (try clear x0 x1 x2 x3 x4 x5 u0 u1 u2 u3 u4 u5 v0 v1 v2 v3 v4 v5)
  replace HB := hide (below_tr (unhide HB) hb)
  replace HX := hide ((unhide HX).bel hb)
  replace HW9 := hide ((unhide HW9).bel hb)
  replace HQ4 := hide ((unhide HQ4).bel hb)
  replace HA := hide ((unhide HA).bel hb)
  replace HQ7 := hide ((unhide HQ7).bel hb)
  replace HHD := hide ((unhide HHD).bel hb)
  have HN0 := hide (ho)
  clear hb ho
  have x0 := (unhide HX).cell 0 rfl
  have x1 := (unhide HX).cell 1 rfl
  have x2 := (unhide HX).cell 2 rfl
  have x3 := (unhide HX).cell 3 rfl
  have x4 := (unhide HX).cell 4 rfl
  have x5 := (unhide HX).cell 5 rfl
  have u0 := (unhide HQ4).cell 0 rfl
  have u1 := (unhide HQ4).cell 1 rfl
  have u2 := (unhide HQ4).cell 2 rfl
  have u3 := (unhide HQ4).cell 3 rfl
  have u4 := (unhide HQ4).cell 4 rfl
  have u5 := (unhide HQ4).cell 5 rfl
  have v0 := (unhide HQ7).cell 0 rfl
  have v1 := (unhide HQ7).cell 1 rfl
  have v2 := (unhide HQ7).cell 2 rfl
  have v3 := (unhide HQ7).cell 3 rfl
  have v4 := (unhide HQ7).cell 4 rfl
  have v5 := (unhide HQ7).cell 5 rfl
  go_wp2_with fail
  refine (c31 ⟨es, pu, ds, cl, nu, sa⟩ ⟨bn0, jn0, bn1, jn1, bn2, jn2, bn4, jn4, bn5, jn5⟩ _ hs (unhide HN0).len2 (unhide HN0).rd).mono ?_
  rintro e w12 ⟨⟨bp0, jp0, bp1, jp1, bp2, jp2, bp4, jp4, bp5, jp5⟩, rfl, ho, hb⟩
  rw [unhide HH9] at ho
  rw [unhide HH9, unhide HB9]
  (try clear x0 x1 x2 x3 x4 x5 u0 u1 u2 u3 u4 u5 v0 v1 v2 v3 v4 v5)
  replace HB := hide (below_tr (unhide HB) hb)
  replace HX := hide ((unhide HX).bel hb)
  replace HW9 := hide ((unhide HW9).bel hb)
  replace HQ4 := hide ((unhide HQ4).bel hb)
  replace HA := hide ((unhide HA).bel hb)
  replace HQ7 := hide ((unhide HQ7).bel hb)
  replace HHD := hide ((unhide HHD).bel hb)
  clear HN0
  have HN := hide (ho)
  clear hb ho
  have x0 := (unhide HX).cell 0 rfl
  have x1 := (unhide HX).cell 1 rfl
  have x2 := (unhide HX).cell 2 rfl
  have x3 := (unhide HX).cell 3 rfl
  have x4 := (unhide HX).cell 4 rfl
  have x5 := (unhide HX).cell 5 rfl
  have u0 := (unhide HQ4).cell 0 rfl
  have u1 := (unhide HQ4).cell 1 rfl
  have u2 := (unhide HQ4).cell 2 rfl
  have u3 := (unhide HQ4).cell 3 rfl
  have u4 := (unhide HQ4).cell 4 rfl
  have u5 := (unhide HQ4).cell 5 rfl
  have v0 := (unhide HQ7).cell 0 rfl
  have v1 := (unhide HQ7).cell 1 rfl
  have v2 := (unhide HQ7).cell 2 rfl
  have v3 := (unhide HQ7).cell 3 rfl
  have v4 := (unhide HQ7).cell 4 rfl
  have v5 := (unhide HQ7).cell 5 rfl
  (try clear x0 x1 x2 x3 x4 x5 u0 u1 u2 u3 u4 u5 v0 v1 v2 v3 v4 v5)
  replace HB := hide (below_al (o := .cells #[.slice bp0 es9.length jp0, .slice bp1 pu9.length jp1, .slice bp2 ds9.length jp2, .int .i64 cl9, .slice bp4 nu9.length jp4, .slice bp5 sa9.length jp5] 28) (unhide HB))
  replace HX := hide ((unhide HX).bel (below_a (.cells #[.slice bp0 es9.length jp0, .slice bp1 pu9.length jp1, .slice bp2 ds9.length jp2, .int .i64 cl9, .slice bp4 nu9.length jp4, .slice bp5 sa9.length jp5] 28)))
  replace HW9 := hide ((unhide HW9).bel (below_a (.cells #[.slice bp0 es9.length jp0, .slice bp1 pu9.length jp1, .slice bp2 ds9.length jp2, .int .i64 cl9, .slice bp4 nu9.length jp4, .slice bp5 sa9.length jp5] 28)))
  replace HQ4 := hide ((unhide HQ4).bel (below_a (.cells #[.slice bp0 es9.length jp0, .slice bp1 pu9.length jp1, .slice bp2 ds9.length jp2, .int .i64 cl9, .slice bp4 nu9.length jp4, .slice bp5 sa9.length jp5] 28)))
  replace HA := hide ((unhide HA).bel (below_a (.cells #[.slice bp0 es9.length jp0, .slice bp1 pu9.length jp1, .slice bp2 ds9.length jp2, .int .i64 cl9, .slice bp4 nu9.length jp4, .slice bp5 sa9.length jp5] 28)))
  replace HQ7 := hide ((unhide HQ7).bel (below_a (.cells #[.slice bp0 es9.length jp0, .slice bp1 pu9.length jp1, .slice bp2 ds9.length jp2, .int .i64 cl9, .slice bp4 nu9.length jp4, .slice bp5 sa9.length jp5] 28)))
  replace HHD := hide ((unhide HHD).bel (below_a (.cells #[.slice bp0 es9.length jp0, .slice bp1 pu9.length jp1, .slice bp2 ds9.length jp2, .int .i64 cl9, .slice bp4 nu9.length jp4, .slice bp5 sa9.length jp5] 28)))
  replace HN := hide ((unhide HN).bel (below_a (.cells #[.slice bp0 es9.length jp0, .slice bp1 pu9.length jp1, .slice bp2 ds9.length jp2, .int .i64 cl9, .slice bp4 nu9.length jp4, .slice bp5 sa9.length jp5] 28)))
  have HQ12 := hide (box_new w12 [.slice bp0 es9.length jp0, .slice bp1 pu9.length jp1, .slice bp2 ds9.length jp2, .int .i64 cl9, .slice bp4 nu9.length jp4, .slice bp5 sa9.length jp5] 28 (by simp [Value.oneCell']))
  have x0 := (unhide HX).cell 0 rfl
  have x1 := (unhide HX).cell 1 rfl
  have x2 := (unhide HX).cell 2 rfl
  have x3 := (unhide HX).cell 3 rfl
  have x4 := (unhide HX).cell 4 rfl
  have x5 := (unhide HX).cell 5 rfl
  have u0 := (unhide HQ4).cell 0 rfl
  have u1 := (unhide HQ4).cell 1 rfl
  have u2 := (unhide HQ4).cell 2 rfl
  have u3 := (unhide HQ4).cell 3 rfl
  have u4 := (unhide HQ4).cell 4 rfl
  have u5 := (unhide HQ4).cell 5 rfl
  have v0 := (unhide HQ7).cell 0 rfl
  have v1 := (unhide HQ7).cell 1 rfl
  have v2 := (unhide HQ7).cell 2 rfl
  have v3 := (unhide HQ7).cell 3 rfl
  have v4 := (unhide HQ7).cell 4 rfl
  have v5 := (unhide HQ7).cell 5 rfl
  have p0 := (unhide HQ12).cell 0 rfl
  have p1 := (unhide HQ12).cell 1 rfl
  have p2 := (unhide HQ12).cell 2 rfl
  have p3 := (unhide HQ12).cell 3 rfl
  have p4 := (unhide HQ12).cell 4 rfl
  have p5 := (unhide HQ12).cell 5 rfl
  go_wp2_with fail
  refine (sameH ⟨es9, pu9, ds9, cl9, nu9, sa9⟩ ⟨bp0, jp0, bp1, jp1, bp2, jp2, bp4, jp4, bp5, jp5⟩ ⟨bw0, jw0, bw1, jw1, bw2, jw2, bw4, jw4, bw5, jw5⟩ _ (unhide HS9) (unhide HN).rd (unhide HW9)).mono ?_
  rintro e w13 ⟨rfl, hb⟩
  (try clear x0 x1 x2 x3 x4 x5 u0 u1 u2 u3 u4 u5 v0 v1 v2 v3 v4 v5 p0 p1 p2 p3 p4 p5)
  replace HB := hide (below_tr (unhide HB) hb)
  replace HX := hide ((unhide HX).bel hb)
  replace HW9 := hide ((unhide HW9).bel hb)
  replace HQ4 := hide ((unhide HQ4).bel hb)
  replace HA := hide ((unhide HA).bel hb)
  replace HQ7 := hide ((unhide HQ7).bel hb)
  replace HHD := hide ((unhide HHD).bel hb)
  replace HN := hide ((unhide HN).bel hb)
  replace HQ12 := hide ((unhide HQ12).bel hb)
  clear hb
  have x0 := (unhide HX).cell 0 rfl
  have x1 := (unhide HX).cell 1 rfl
  have x2 := (unhide HX).cell 2 rfl
  have x3 := (unhide HX).cell 3 rfl
  have x4 := (unhide HX).cell 4 rfl
  have x5 := (unhide HX).cell 5 rfl
  have u0 := (unhide HQ4).cell 0 rfl
  have u1 := (unhide HQ4).cell 1 rfl
  have u2 := (unhide HQ4).cell 2 rfl
  have u3 := (unhide HQ4).cell 3 rfl
  have u4 := (unhide HQ4).cell 4 rfl
  have u5 := (unhide HQ4).cell 5 rfl
  have v0 := (unhide HQ7).cell 0 rfl
  have v1 := (unhide HQ7).cell 1 rfl
  have v2 := (unhide HQ7).cell 2 rfl
  have v3 := (unhide HQ7).cell 3 rfl
  have v4 := (unhide HQ7).cell 4 rfl
  have v5 := (unhide HQ7).cell 5 rfl
  have p0 := (unhide HQ12).cell 0 rfl
  have p1 := (unhide HQ12).cell 1 rfl
  have p2 := (unhide HQ12).cell 2 rfl
  have p3 := (unhide HQ12).cell 3 rfl
  have p4 := (unhide HQ12).cell 4 rfl
  have p5 := (unhide HQ12).cell 5 rfl
  go_wp2_with fail
  refine (heldH ⟨es9, pu9, ds9, cl9, nu9, sa9⟩ ⟨bm0, jm0, bm1, jm1, bm2, jm2, bm4, jm4, bm5, jm5⟩ _ _ (unhide HS9) (unhide HHD)).mono ?_
  rintro e w14 ⟨rfl, hb⟩
  (try clear x0 x1 x2 x3 x4 x5 u0 u1 u2 u3 u4 u5 v0 v1 v2 v3 v4 v5 p0 p1 p2 p3 p4 p5)
  replace HB := hide (below_tr (unhide HB) hb)
  replace HX := hide ((unhide HX).bel hb)
  replace HW9 := hide ((unhide HW9).bel hb)
  replace HQ4 := hide ((unhide HQ4).bel hb)
  replace HA := hide ((unhide HA).bel hb)
  replace HQ7 := hide ((unhide HQ7).bel hb)
  replace HHD := hide ((unhide HHD).bel hb)
  replace HN := hide ((unhide HN).bel hb)
  replace HQ12 := hide ((unhide HQ12).bel hb)
  clear hb
  have x0 := (unhide HX).cell 0 rfl
  have x1 := (unhide HX).cell 1 rfl
  have x2 := (unhide HX).cell 2 rfl
  have x3 := (unhide HX).cell 3 rfl
  have x4 := (unhide HX).cell 4 rfl
  have x5 := (unhide HX).cell 5 rfl
  have u0 := (unhide HQ4).cell 0 rfl
  have u1 := (unhide HQ4).cell 1 rfl
  have u2 := (unhide HQ4).cell 2 rfl
  have u3 := (unhide HQ4).cell 3 rfl
  have u4 := (unhide HQ4).cell 4 rfl
  have u5 := (unhide HQ4).cell 5 rfl
  have v0 := (unhide HQ7).cell 0 rfl
  have v1 := (unhide HQ7).cell 1 rfl
  have v2 := (unhide HQ7).cell 2 rfl
  have v3 := (unhide HQ7).cell 3 rfl
  have v4 := (unhide HQ7).cell 4 rfl
  have v5 := (unhide HQ7).cell 5 rfl
  have p0 := (unhide HQ12).cell 0 rfl
  have p1 := (unhide HQ12).cell 1 rfl
  have p2 := (unhide HQ12).cell 2 rfl
  have p3 := (unhide HQ12).cell 3 rfl
  have p4 := (unhide HQ12).cell 4 rfl
  have p5 := (unhide HQ12).cell 5 rfl
  go_wp2_with fail
  go_ret
  exact ⟨rfl, unhide HB⟩
end Go.Proofs.Ytmlbphmbffkdnaa
