/-
  Texts of the proof, what it needs of them: L7c.
-/
import Derived.Test.YtmlbphmbffkdnaaGt16
import Derived.Test.YtmlbphmbffkdnaaGt20
import Derived.Test.YtmlbphmbffkdnaaGt24
import Derived.Test.YtmlbphmbffkdnaaGt29
namespace Go.Proofs.Ytmlbphmbffkdnaa
open Go.RowKit
set_option linter.unusedVariables false
set_option maxRecDepth 100000

theorem elE : ElT 25 134 4 32 := ⟨Try.underlying25, by obtain ⟨i0, hi, hz0, hz1, hz2⟩ := info_parts Try.infoE; exact ⟨i0, _, hi, hz0, hz1, hz2, rfl⟩, by decide⟩
theorem elD : ElT 26 42 5 40 := ⟨Try.underlying26, by obtain ⟨i0, hi, hz0, hz1, hz2⟩ := info_parts Try.infoD; exact ⟨i0, _, hi, hz0, hz1, hz2, rfl⟩, by decide⟩
theorem elI : ElT 23 3 1 8 := ⟨Try.underlying23, by obtain ⟨i0, hi, hz0, hz1, hz2⟩ := info_parts Try.info3; exact ⟨i0, _, hi, hz0, hz1, hz2, rfl⟩, by decide⟩
theorem srcSl {α : Type} {f : α → List Value} {n : Nat} (hf : ∀ x, (f x).length = n) (h1 : ∀ x, ∀ u ∈ f x, u.oneCell' = true) {w : World} {ao : Option Addr} {xs : List α} {c : Nat} (h : Sl f w ao xs) : Src w ao xs.length c n (xs.flatMap f) := by
  refine ⟨flat_len f n hf xs, fun u hu => by obtain ⟨x, _, hx⟩ := List.mem_flatMap.1 hu; exact h1 x u hx, ?_⟩
  rcases xs with _ | ⟨x, t⟩
  · exact .inl rfl
  · obtain ⟨b, off, rfl, hc⟩ := h (by simp)
    exact .inr ⟨_, rfl, fun j u hj => by
      have e : (Addr.add ⟨b, off, none⟩ j) = ⟨b, off + j, none⟩ := by unfold Addr.add; split <;> simp_all
      rw [e]; exact hc j u hj⟩
theorem srcE {w : World} {ao : Option Addr} {xs : List Tm.Ent} {c : Nat} (h : ERow w ao xs) : Src w ao xs.length c 4 (xs.flatMap eCells) := srcSl eCells_len (fun x u hu => by obtain ⟨a, b, c, d⟩ := x; simp [eCells] at hu; rcases hu with rfl | rfl | rfl | rfl <;> rfl) h.2
theorem srcD {w : World} {ao : Option Addr} {xs : List Tm.Deal} {c : Nat} (h : DRow w ao xs) : Src w ao xs.length c 5 (xs.flatMap dCells) := srcSl dCells_len (fun x u hu => by obtain ⟨a, b, c, d, e⟩ := x; simp [dCells] at hu; rcases hu with rfl | rfl | rfl | rfl | rfl <;> rfl) h.2
theorem srcI {w : World} {ao : Option Addr} {xs : List Int} {c : Nat} (h : Row w ao xs) : Src w ao xs.length c 1 (xs.map (Value.int .i64)) := by
  refine ⟨by simp, ints_oneCell _ _, ?_⟩
  rcases xs with _ | ⟨x, t⟩
  · exact .inl rfl
  · obtain ⟨b, off, rfl, -⟩ := h.2 (by simp)
    exact .inr ⟨_, rfl, row_src h⟩

theorem live_form {w : World} {base e size n : Nat} {v : Value} {xs : List Value} (h : w.ownsRow base e size v n xs) : ∃ ao cap, v = .slice ao n cap := by
  rcases h.2 with ⟨rfl, rfl⟩ | ⟨g, cap, cur, rfl, _⟩
  · exact ⟨none, 0, rfl⟩
  · exact ⟨_, cap, rfl⟩
theorem copies5 {w : World} {base : Nat} {es : List Tm.Ent} {pu : List Int} {ds : List Tm.Deal} {cl : Int} {nu sa : List Int} {w0 : World} {q : HP} {t0 t1 t2 t4 t5 : Value} (hr : HRow w0 q ⟨es, pu, ds, cl, nu, sa⟩)
    (hL : Live w base ([(134, 4, t0, es.length, es.flatMap eCells)] ++ ([(3, 1, t1, pu.length, pu.map (Value.int .i64))] ++ ([(42, 5, t2, ds.length, ds.flatMap dCells)] ++ ([(3, 1, t4, nu.length, nu.map (Value.int .i64))] ++ [(3, 1, t5, sa.length, sa.map (Value.int .i64))]))))) :
    ∃ b0 j0 b1 j1 b2 j2 b4 j4 b5 j5, t0 = .slice b0 es.length j0 ∧ t1 = .slice b1 pu.length j1 ∧ t2 = .slice b2 ds.length j2 ∧ t4 = .slice b4 nu.length j4 ∧ t5 = .slice b5 sa.length j5 ∧ HOwn w base ⟨b0, j0, b1, j1, b2, j2, b4, j4, b5, j5⟩ ⟨es, pu, ds, cl, nu, sa⟩ := by
  obtain ⟨h1, h2⟩ := hL
  simp only [List.cons_append, List.nil_append, List.mem_cons, List.not_mem_nil, or_false, forall_eq_or_imp, forall_eq] at h1
  simp only [List.cons_append, List.nil_append, List.pairwise_cons, List.mem_cons, List.not_mem_nil, or_false, forall_eq_or_imp, forall_eq] at h2
  obtain ⟨o0, o1, o2, o4, o5⟩ := h1
  obtain ⟨a0, k0, rfl⟩ := live_form o0
  obtain ⟨a1, k1, rfl⟩ := live_form o1
  obtain ⟨a2, k2, rfl⟩ := live_form o2
  obtain ⟨a4, k4, rfl⟩ := live_form o4
  obtain ⟨a5, k5, rfl⟩ := live_form o5
  obtain ⟨⟨p01, p02, p04, p05⟩, ⟨p12, p14, p15⟩, ⟨p24, p25⟩, p45, -⟩ := h2
  refine ⟨a0, k0, a1, k1, a2, k2, a4, k4, a5, k5, rfl, rfl, rfl, rfl, rfl, ⟨hr.1.1, o0⟩, ⟨hr.2.1.1, o1⟩, ⟨hr.2.2.1.1, o2⟩, ⟨hr.2.2.2.1.1, o4⟩, ⟨hr.2.2.2.2.1, o5⟩, p01, p02, p04, p05, p12, p14, p15, p24, p25, p45⟩
theorem HOwn.kg {w w' : World} {base r : Nat} {q : HP} {h : House} (o : HOwn w base q h) (hg : w.grownBy w' (some r)) (hr : r < base) : HOwn w' base q h := o.kptB hg hr
theorem HOwn.lower {w : World} {base base' : Nat} {q : HP} {h : House} (o : HOwn w base q h) (hb : base' ≤ base) : HOwn w base' q h := ⟨o.1.monoH hb, o.2.1.mono hb, o.2.2.1.monoH hb, o.2.2.2.1.mono hb, o.2.2.2.2.1.mono hb, o.2.2.2.2.2⟩

theorem bldE (ev : Operand → Value) (w : World) {b0 b1 b2 b4 b5 : Option Addr} {n0 n1 n2 n4 n5 j0 j1 j2 j4 j5 : Nat} {cl : Int} {d : Option Tmp} {x0 x1 x2 x3 x4 x5 : Operand} {p : String} {f : Array Edge} {t : TypeId} {g : Option (Nat × Bool)}
    (h0 : ev x0 = .slice b0 n0 j0) (h1 : ev x1 = .slice b1 n1 j1) (h2 : ev x2 = .slice b2 n2 j2) (h3 : ev x3 = .int .i64 cl) (h4 : ev x4 = .slice b4 n4 j4) (h5 : ev x5 = .slice b5 n5 j5) :
    (execOp ev { dst := d, op := Op.build 28 #[(0, x0), (1, x1), (2, x2), (3, x3), (4, x4), (5, x5)], type := t, pos := p, after := f, guard := g }).run Try.prog w = .ok (.value (.agg #[.slice b0 n0 j0, .slice b1 n1 j1, .slice b2 n2 j2, .int .i64 cl, .slice b4 n4 j4, .slice b5 n5 j5])) w := by
  go_simp

set_option maxHeartbeats 16000000 in
theorem c119 (h : House) (q : HP) (w : World) (hs : Small h) (hr : HRow w q h) : Calls Try.prog 119 #[hV q h] w (HTold w h) := by
  obtain ⟨es, pu, ds, cl, nu, sa⟩ := h
  obtain ⟨a0, k0, a1, k1, a2, k2, a4, k4, a5, k5⟩ := q
  have HRR := hide hr
  have HSM := hide hs
  clear hr hs
  have HB := hide (Below.refl w.heap.size w)
  replace HB := hide (below_al (o := .cells #[.slice a0 es.length k0, .slice a1 pu.length k1, .slice a2 ds.length k2, .int .i64 cl, .slice a4 nu.length k4, .slice a5 sa.length k5] 28) (unhide HB))
  replace HRR := hide ((unhide HRR).bel (below_a (.cells #[.slice a0 es.length k0, .slice a1 pu.length k1, .slice a2 ds.length k2, .int .i64 cl, .slice a4 nu.length k4, .slice a5 sa.length k5] 28)))
  have HX := hide (box_new w [.slice a0 es.length k0, .slice a1 pu.length k1, .slice a2 ds.length k2, .int .i64 cl, .slice a4 nu.length k4, .slice a5 sa.length k5] 28 (by simp [Value.oneCell']))
  (try simp only [World.size_alloc] at HX)
  replace HB := hide (below_al (o := .cells #[.slice none 0 0, .slice none 0 0, .slice none 0 0, .int .i64 0, .slice none 0 0, .slice none 0 0] 28) (unhide HB))
  replace HRR := hide ((unhide HRR).bel (below_a (.cells #[.slice none 0 0, .slice none 0 0, .slice none 0 0, .int .i64 0, .slice none 0 0, .slice none 0 0] 28)))
  replace HX := hide ((unhide HX).bel (below_a (.cells #[.slice none 0 0, .slice none 0 0, .slice none 0 0, .int .i64 0, .slice none 0 0, .slice none 0 0] 28)))
  have HY := hide (box_new (w.alloc (.cells #[.slice a0 es.length k0, .slice a1 pu.length k1, .slice a2 ds.length k2, .int .i64 cl, .slice a4 nu.length k4, .slice a5 sa.length k5] 28)) [.slice none 0 0, .slice none 0 0, .slice none 0 0, .int .i64 0, .slice none 0 0, .slice none 0 0] 28 (by simp [Value.oneCell']))
  (try simp only [World.size_alloc] at HY)
  have x0 := (unhide HX).cell 0 rfl
  have x1 := (unhide HX).cell 1 rfl
  have x2 := (unhide HX).cell 2 rfl
  have x3 := (unhide HX).cell 3 rfl
  have x4 := (unhide HX).cell 4 rfl
  have x5 := (unhide HX).cell 5 rfl
  have y0 := (unhide HY).cell 0 rfl
  have y1 := (unhide HY).cell 1 rfl
  have y2 := (unhide HY).cell 2 rfl
  have y3 := (unhide HY).cell 3 rfl
  have y4 := (unhide HY).cell 4 rfl
  have y5 := (unhide HY).cell 5 rfl
  go_enter Try.func119, Try.ntmps119
  go_wp2_with fail
  (try clear x0 x1 x2 x3 x4 x5 y0 y1 y2 y3 y4 y5)
  have hbs : w.heap.size + 1 < ((w.alloc (.cells #[.slice a0 es.length k0, .slice a1 pu.length k1, .slice a2 ds.length k2, .int .i64 cl, .slice a4 nu.length k4, .slice a5 sa.length k5] 28)).alloc (.cells #[.slice none 0 0, .slice none 0 0, .slice none 0 0, .int .i64 0, .slice none 0 0, .slice none 0 0] 28)).heap.size := by simp
  have HBS := hide hbs
  clear hbs
  generalize (w.alloc (.cells #[.slice a0 es.length k0, .slice a1 pu.length k1, .slice a2 ds.length k2, .int .i64 cl, .slice a4 nu.length k4, .slice a5 sa.length k5] 28)).alloc (.cells #[.slice none 0 0, .slice none 0 0, .slice none 0 0, .int .i64 0, .slice none 0 0, .slice none 0 0] 28) = W at *
  refine wp_region_held_drew (S := fun w' => Box w' w.heap.size [.slice a0 es.length k0, .slice a1 pu.length k1, .slice a2 ds.length k2, .int .i64 cl, .slice a4 nu.length k4, .slice a5 sa.length k5]) (by kernel_rfl) ((unhide HX).bel (below_drew W)) (fun hHeld => ?_)
  refine tk 1 (some 4) (v := ?_) ?_ ?_
  rotate_left
  · intro w hSw
    first | (go_simp; done) | (go_simp; with_reducible rfl) | with_reducible rfl | rfl
  try simp only [Act.put, List.setIfInBounds_toArray, List.set_cons_zero, List.set_cons_succ]
  refine tk 2 (some 5) (v := ?_) ?_ ?_
  rotate_left
  · intro w hSw
    have x0 := hSw.cell 0 rfl; have x1 := hSw.cell 1 rfl; have x2 := hSw.cell 2 rfl; have x3 := hSw.cell 3 rfl; have x4 := hSw.cell 4 rfl; have x5 := hSw.cell 5 rfl
    first | (go_simp; done) | (go_simp; with_reducible rfl) | with_reducible rfl | rfl
  try simp only [Act.put, List.setIfInBounds_toArray, List.set_cons_zero, List.set_cons_succ]
  refine tk 5 (some 8) (v := ?_) ?_ ?_
  rotate_left
  · intro w hSw
    first | (go_simp; done) | (go_simp; with_reducible rfl) | with_reducible rfl | rfl
  try simp only [Act.put, List.setIfInBounds_toArray, List.set_cons_zero, List.set_cons_succ]
  refine tk 6 (some 9) (v := ?_) ?_ ?_
  rotate_left
  · intro w hSw
    have x0 := hSw.cell 0 rfl; have x1 := hSw.cell 1 rfl; have x2 := hSw.cell 2 rfl; have x3 := hSw.cell 3 rfl; have x4 := hSw.cell 4 rfl; have x5 := hSw.cell 5 rfl
    first | (go_simp; done) | (go_simp; with_reducible rfl) | with_reducible rfl | rfl
  try simp only [Act.put, List.setIfInBounds_toArray, List.set_cons_zero, List.set_cons_succ]
  refine tk 9 (some 12) (v := ?_) ?_ ?_
  rotate_left
  · intro w hSw
    first | (go_simp; done) | (go_simp; with_reducible rfl) | with_reducible rfl | rfl
  try simp only [Act.put, List.setIfInBounds_toArray, List.set_cons_zero, List.set_cons_succ]
  refine tk 10 (some 13) (v := ?_) ?_ ?_
  rotate_left
  · intro w hSw
    have x0 := hSw.cell 0 rfl; have x1 := hSw.cell 1 rfl; have x2 := hSw.cell 2 rfl; have x3 := hSw.cell 3 rfl; have x4 := hSw.cell 4 rfl; have x5 := hSw.cell 5 rfl
    first | (go_simp; done) | (go_simp; with_reducible rfl) | with_reducible rfl | rfl
  try simp only [Act.put, List.setIfInBounds_toArray, List.set_cons_zero, List.set_cons_succ]
  refine tk 12 (some 15) (v := ?_) ?_ ?_
  rotate_left
  · intro w hSw
    first | (go_simp; done) | (go_simp; with_reducible rfl) | with_reducible rfl | rfl
  try simp only [Act.put, List.setIfInBounds_toArray, List.set_cons_zero, List.set_cons_succ]
  refine tk 13 (some 16) (v := ?_) ?_ ?_
  rotate_left
  · intro w hSw
    have x0 := hSw.cell 0 rfl; have x1 := hSw.cell 1 rfl; have x2 := hSw.cell 2 rfl; have x3 := hSw.cell 3 rfl; have x4 := hSw.cell 4 rfl; have x5 := hSw.cell 5 rfl
    first | (go_simp; done) | (go_simp; with_reducible rfl) | with_reducible rfl | rfl
  try simp only [Act.put, List.setIfInBounds_toArray, List.set_cons_zero, List.set_cons_succ]
  refine tk 15 (some 18) (v := ?_) ?_ ?_
  rotate_left
  · intro w hSw
    first | (go_simp; done) | (go_simp; with_reducible rfl) | with_reducible rfl | rfl
  try simp only [Act.put, List.setIfInBounds_toArray, List.set_cons_zero, List.set_cons_succ]
  refine tk 16 (some 19) (v := ?_) ?_ ?_
  rotate_left
  · intro w hSw
    have x0 := hSw.cell 0 rfl; have x1 := hSw.cell 1 rfl; have x2 := hSw.cell 2 rfl; have x3 := hSw.cell 3 rfl; have x4 := hSw.cell 4 rfl; have x5 := hSw.cell 5 rfl
    first | (go_simp; done) | (go_simp; with_reducible rfl) | with_reducible rfl | rfl
  try simp only [Act.put, List.setIfInBounds_toArray, List.set_cons_zero, List.set_cons_succ]
  refine tk 19 (some 22) (v := ?_) ?_ ?_
  rotate_left
  · intro w hSw
    first | (go_simp; done) | (go_simp; with_reducible rfl) | with_reducible rfl | rfl
  try simp only [Act.put, List.setIfInBounds_toArray, List.set_cons_zero, List.set_cons_succ]
  refine tk 20 (some 23) (v := ?_) ?_ ?_
  rotate_left
  · intro w hSw
    have x0 := hSw.cell 0 rfl; have x1 := hSw.cell 1 rfl; have x2 := hSw.cell 2 rfl; have x3 := hSw.cell 3 rfl; have x4 := hSw.cell 4 rfl; have x5 := hSw.cell 5 rfl
    first | (go_simp; done) | (go_simp; with_reducible rfl) | with_reducible rfl | rfl
  try simp only [Act.put, List.setIfInBounds_toArray, List.set_cons_zero, List.set_cons_succ]
  have HD := below_drew W
  generalize W.drew = V0 at *
  refine wpAnyH_steps (fun aa listed a w' => ∃ (f0 f1 f2 f3 f4 g0 g1 g2 g3 g4 p : Bool) (t3 t6 t7 t10 t11 t14 t17 t20 t21 t24 t25 : Value), listed = #[f0, true, true, g0, f1, true, true, g1, f2, true, true, g2, true, true, f3, true, true, g3, f4, true, true, g4, p, false] ∧ a = (((((((((((aa).put (some 3) t3).put (some 6) t6).put (some 7) t7).put (some 10) t10).put (some 11) t11).put (some 14) t14).put (some 17) t17).put (some 20) t20).put (some 21) t21).put (some 24) t24).put (some 25) t25 ∧ (p = true → g0 = true ∧ g1 = true ∧ g2 = true ∧ g3 = true ∧ g4 = true ∧ t25 = .agg #[t6, t10, t14, .int .i64 cl, t20, t24]) ∧ (g0 = true → f0 = true) ∧ (g1 = true → f1 = true) ∧ (g2 = true → f2 = true) ∧ (g3 = true → f3 = true) ∧ (g4 = true → f4 = true) ∧ Below W.heap.size W w' ∧ Live w' W.heap.size (rowFl f0 g0 134 4 t3 t6 es.length (es.flatMap eCells) ++ (rowFl f1 g1 3 1 t7 t10 pu.length (pu.map (Value.int .i64)) ++ (rowFl f2 g2 42 5 t11 t14 ds.length (ds.flatMap dCells) ++ (rowFl f3 g3 3 1 t17 t20 nu.length (nu.map (Value.int .i64)) ++ rowFl f4 g4 3 1 t21 t24 sa.length (sa.map (Value.int .i64))))))) [0, 3, 4, 7, 8, 11, 14, 17, 18, 21, 22] [23] 1 ?_ ?_ ?_ ?_
  · refine ⟨false, false, false, false, false, false, false, false, false, false, false, undef, undef, undef, undef, undef, undef, undef, undef, undef, undef, undef, rfl, ?_, (fun h => absurd h (by simp)), (fun h => absurd h (by simp)), (fun h => absurd h (by simp)), (fun h => absurd h (by simp)), (fun h => absurd h (by simp)), (fun h => absurd h (by simp)), HD, live_nil _ _⟩
    simp only [Act.put, List.setIfInBounds_toArray, List.set_cons_zero, List.set_cons_succ]
  · rintro listed a w' ⟨f0, f1, f2, f3, f4, g0, g1, g2, g3, g4, p, t3, t6, t7, t10, t11, t14, t17, t20, t21, t24, t25, rfl, rfl, hp, h0, h1, h2, h3, h4, hb, hL⟩
    exact ⟨rfl, by kernel_rfl⟩
  · skip
    refine StepsI.cons (i := 0) (o := { dst := some 3, op := _, type := _, pos := _, after := _, guard := _ }) rfl ?_ ?_
    · as_aux_lemma =>
      rintro listed a w' ⟨f0, f1, f2, f3, f4, g0, g1, g2, g3, g4, p, t3, t6, t7, t10, t11, t14, t17, t20, t21, t24, t25, rfl, ha, hp, h0, h1, h2, h3, h4, hb, hL⟩ hun hd K' hK
      simp only [Act.put, List.setIfInBounds_toArray, List.set_cons_zero, List.set_cons_succ] at ha
      subst ha
      obtain rfl : f0 = false := hun
      obtain rfl : g0 = false := by cases g0; rfl; exact absurd (h0 rfl) (by simp)
      obtain rfl : p = false := by cases p; rfl; exact absurd (hp rfl) (by simp)
      go_simp
      have hl := live_new (A := ([] : List LRow)) (C := (rowFl f1 g1 3 1 t7 t10 pu.length (pu.map (Value.int .i64)) ++ (rowFl f2 g2 42 5 t11 t14 ds.length (ds.flatMap dCells) ++ (rowFl f3 g3 3 1 t17 t20 nu.length (nu.map (Value.int .i64)) ++ (rowFl f4 g4 3 1 t21 t24 sa.length (sa.map (Value.int .i64))))))) (T := 134) (n := 4) (v := .slice (some ⟨w'.heap.size, 0, none⟩) 0 0) (m := 0) (cs := []) (by simpa only [rowFl, List.nil_append, List.append_nil, List.append_assoc] using hL) (below_a (.cells #[] 134)) (World.ownsRow_lit w' #[] 0 hb.size (by decide) rfl) (fun k hk => by simp [Value.ownBlock] at hk; omega)
      refine hK.out _ _ (((unhide HX).bel hb).bel (below_a _)) ?_
      refine ⟨true, f1, f2, f3, f4, false, g1, g2, g3, g4, false, (.slice (some ⟨w'.heap.size, 0, none⟩) 0 0), t6, t7, t10, t11, t14, t17, t20, t21, t24, t25, (by simp only [List.setIfInBounds_toArray, List.set_cons_zero]), (by simp only [Act.put, List.setIfInBounds_toArray, List.set_cons_zero, List.set_cons_succ]), (fun h => absurd h (by simp)), (fun h => absurd h (by simp)), h1, h2, h3, h4, below_then hb (below_a _), ?_⟩
      simpa only [rowFl, List.nil_append, List.append_nil, List.append_assoc, List.cons_append] using hl
    refine StepsI.cons (i := 3) (o := { dst := some 6, op := _, type := _, pos := _, after := _, guard := _ }) rfl ?_ ?_
    · as_aux_lemma =>
      rintro listed a w' ⟨f0, f1, f2, f3, f4, g0, g1, g2, g3, g4, p, t3, t6, t7, t10, t11, t14, t17, t20, t21, t24, t25, rfl, ha, hp, h0, h1, h2, h3, h4, hb, hL⟩ hun hd K' hK
      simp only [Act.put, List.setIfInBounds_toArray, List.set_cons_zero, List.set_cons_succ] at ha
      subst ha
      obtain rfl : g0 = false := hun
      obtain rfl : f0 = true := by cases f0; exact Bool.noConfusion (show false = true from hd); rfl
      obtain rfl : p = false := by cases p; rfl; exact absurd (hp rfl) (by simp)
      have hl : Live w' W.heap.size (([] : List LRow) ++ (134, 4, t3, 0, []) :: (rowFl f1 g1 3 1 t7 t10 pu.length (pu.map (Value.int .i64)) ++ (rowFl f2 g2 42 5 t11 t14 ds.length (ds.flatMap dCells) ++ (rowFl f3 g3 3 1 t17 t20 nu.length (nu.map (Value.int .i64)) ++ (rowFl f4 g4 3 1 t21 t24 sa.length (sa.map (Value.int .i64))))))) := by simpa only [rowFl, List.nil_append, List.append_nil, List.append_assoc, List.cons_append] using hL
      have hsz : es.length ≤ 1048576 := (unhide HSM).1
      refine step_copy (by rfl) _ _ 25 (by rfl) W.heap.size 134 4 32 elE t3 (by rfl) (live_pair.1 hl).2.1 a0 es.length k0 (es.flatMap eCells) (by rfl) (srcE ((unhide HRR).1.bel hb)) (by unfold maxLen; omega) (by omega) hb.size ?_
      intro v' w2 ho hg hv
      have hb2 : Below W.heap.size W w2 := hb.grown hg hb.size (fun k hk => ((live_pair.1 hl).2.1.lt k hk).1)
      refine hK.out _ _ ((unhide HX).bel hb2) ?_
      refine ⟨true, f1, f2, f3, f4, true, g1, g2, g3, g4, false, t3, v', t7, t10, t11, t14, t17, t20, t21, t24, t25, (by simp only [List.setIfInBounds_toArray, List.set_cons_zero, List.set_cons_succ]), (by simp only [Act.put, List.setIfInBounds_toArray, List.set_cons_zero, List.set_cons_succ]), (fun h => absurd h (by simp)), (fun _ => rfl), h1, h2, h3, h4, hb2, ?_⟩
      simpa only [rowFl, List.nil_append, List.append_nil, List.append_assoc, List.cons_append] using live_grow hl hg ho hv
    refine StepsI.cons (i := 4) (o := { dst := some 7, op := _, type := _, pos := _, after := _, guard := _ }) rfl ?_ ?_
    · as_aux_lemma =>
      rintro listed a w' ⟨f0, f1, f2, f3, f4, g0, g1, g2, g3, g4, p, t3, t6, t7, t10, t11, t14, t17, t20, t21, t24, t25, rfl, ha, hp, h0, h1, h2, h3, h4, hb, hL⟩ hun hd K' hK
      simp only [Act.put, List.setIfInBounds_toArray, List.set_cons_zero, List.set_cons_succ] at ha
      subst ha
      obtain rfl : f1 = false := hun
      obtain rfl : g1 = false := by cases g1; rfl; exact absurd (h1 rfl) (by simp)
      obtain rfl : p = false := by cases p; rfl; exact absurd (hp rfl) (by simp)
      go_simp
      have hl := live_new (A := rowFl f0 g0 134 4 t3 t6 es.length (es.flatMap eCells)) (C := (rowFl f2 g2 42 5 t11 t14 ds.length (ds.flatMap dCells) ++ (rowFl f3 g3 3 1 t17 t20 nu.length (nu.map (Value.int .i64)) ++ (rowFl f4 g4 3 1 t21 t24 sa.length (sa.map (Value.int .i64)))))) (T := 3) (n := 1) (v := .slice (some ⟨w'.heap.size, 0, none⟩) 0 0) (m := 0) (cs := []) (by simpa only [rowFl, List.nil_append, List.append_nil, List.append_assoc] using hL) (below_a (.cells #[] 3)) (World.ownsRow_lit w' #[] 0 hb.size (by decide) rfl) (fun k hk => by simp [Value.ownBlock] at hk; omega)
      refine hK.out _ _ (((unhide HX).bel hb).bel (below_a _)) ?_
      refine ⟨f0, true, f2, f3, f4, g0, false, g2, g3, g4, false, t3, t6, (.slice (some ⟨w'.heap.size, 0, none⟩) 0 0), t10, t11, t14, t17, t20, t21, t24, t25, (by simp only [List.setIfInBounds_toArray, List.set_cons_zero, List.set_cons_succ]), (by simp only [Act.put, List.setIfInBounds_toArray, List.set_cons_zero, List.set_cons_succ]), (fun h => absurd h (by simp)), h0, (fun h => absurd h (by simp)), h2, h3, h4, below_then hb (below_a _), ?_⟩
      simpa only [rowFl, List.nil_append, List.append_nil, List.append_assoc, List.cons_append] using hl
    refine StepsI.cons (i := 7) (o := { dst := some 10, op := _, type := _, pos := _, after := _, guard := _ }) rfl ?_ ?_
    · as_aux_lemma =>
      rintro listed a w' ⟨f0, f1, f2, f3, f4, g0, g1, g2, g3, g4, p, t3, t6, t7, t10, t11, t14, t17, t20, t21, t24, t25, rfl, ha, hp, h0, h1, h2, h3, h4, hb, hL⟩ hun hd K' hK
      simp only [Act.put, List.setIfInBounds_toArray, List.set_cons_zero, List.set_cons_succ] at ha
      subst ha
      obtain rfl : g1 = false := hun
      obtain rfl : f1 = true := by cases f1; exact Bool.noConfusion (show false = true from hd); rfl
      obtain rfl : p = false := by cases p; rfl; exact absurd (hp rfl) (by simp)
      have hl : Live w' W.heap.size (rowFl f0 g0 134 4 t3 t6 es.length (es.flatMap eCells) ++ (3, 1, t7, 0, []) :: (rowFl f2 g2 42 5 t11 t14 ds.length (ds.flatMap dCells) ++ (rowFl f3 g3 3 1 t17 t20 nu.length (nu.map (Value.int .i64)) ++ (rowFl f4 g4 3 1 t21 t24 sa.length (sa.map (Value.int .i64)))))) := by simpa only [rowFl, List.nil_append, List.append_nil, List.append_assoc, List.cons_append] using hL
      have hsz : pu.length ≤ 1048576 := (unhide HSM).2.1
      refine step_copy (by rfl) _ _ 23 (by rfl) W.heap.size 3 1 8 elI t7 (by rfl) (live_pair.1 hl).2.1 a1 pu.length k1 (pu.map (Value.int .i64)) (by rfl) (srcI ((unhide HRR).2.1.bel hb)) (by unfold maxLen; omega) (by omega) hb.size ?_
      intro v' w2 ho hg hv
      have hb2 : Below W.heap.size W w2 := hb.grown hg hb.size (fun k hk => ((live_pair.1 hl).2.1.lt k hk).1)
      refine hK.out _ _ ((unhide HX).bel hb2) ?_
      refine ⟨f0, true, f2, f3, f4, g0, true, g2, g3, g4, false, t3, t6, t7, v', t11, t14, t17, t20, t21, t24, t25, (by simp only [List.setIfInBounds_toArray, List.set_cons_zero, List.set_cons_succ]), (by simp only [Act.put, List.setIfInBounds_toArray, List.set_cons_zero, List.set_cons_succ]), (fun h => absurd h (by simp)), h0, (fun _ => rfl), h2, h3, h4, hb2, ?_⟩
      simpa only [rowFl, List.nil_append, List.append_nil, List.append_assoc, List.cons_append] using live_grow hl hg ho hv
    refine StepsI.cons (i := 8) (o := { dst := some 11, op := _, type := _, pos := _, after := _, guard := _ }) rfl ?_ ?_
    · as_aux_lemma =>
      rintro listed a w' ⟨f0, f1, f2, f3, f4, g0, g1, g2, g3, g4, p, t3, t6, t7, t10, t11, t14, t17, t20, t21, t24, t25, rfl, ha, hp, h0, h1, h2, h3, h4, hb, hL⟩ hun hd K' hK
      simp only [Act.put, List.setIfInBounds_toArray, List.set_cons_zero, List.set_cons_succ] at ha
      subst ha
      obtain rfl : f2 = false := hun
      obtain rfl : g2 = false := by cases g2; rfl; exact absurd (h2 rfl) (by simp)
      obtain rfl : p = false := by cases p; rfl; exact absurd (hp rfl) (by simp)
      go_simp
      have hl := live_new (A := (rowFl f0 g0 134 4 t3 t6 es.length (es.flatMap eCells) ++ (rowFl f1 g1 3 1 t7 t10 pu.length (pu.map (Value.int .i64))))) (C := (rowFl f3 g3 3 1 t17 t20 nu.length (nu.map (Value.int .i64)) ++ (rowFl f4 g4 3 1 t21 t24 sa.length (sa.map (Value.int .i64))))) (T := 42) (n := 5) (v := .slice (some ⟨w'.heap.size, 0, none⟩) 0 0) (m := 0) (cs := []) (by simpa only [rowFl, List.nil_append, List.append_nil, List.append_assoc] using hL) (below_a (.cells #[] 42)) (World.ownsRow_lit w' #[] 0 hb.size (by decide) rfl) (fun k hk => by simp [Value.ownBlock] at hk; omega)
      refine hK.out _ _ (((unhide HX).bel hb).bel (below_a _)) ?_
      refine ⟨f0, f1, true, f3, f4, g0, g1, false, g3, g4, false, t3, t6, t7, t10, (.slice (some ⟨w'.heap.size, 0, none⟩) 0 0), t14, t17, t20, t21, t24, t25, (by simp only [List.setIfInBounds_toArray, List.set_cons_zero, List.set_cons_succ]), (by simp only [Act.put, List.setIfInBounds_toArray, List.set_cons_zero, List.set_cons_succ]), (fun h => absurd h (by simp)), h0, h1, (fun h => absurd h (by simp)), h3, h4, below_then hb (below_a _), ?_⟩
      simpa only [rowFl, List.nil_append, List.append_nil, List.append_assoc, List.cons_append] using hl
    refine StepsI.cons (i := 11) (o := { dst := some 14, op := _, type := _, pos := _, after := _, guard := _ }) rfl ?_ ?_
    · as_aux_lemma =>
      rintro listed a w' ⟨f0, f1, f2, f3, f4, g0, g1, g2, g3, g4, p, t3, t6, t7, t10, t11, t14, t17, t20, t21, t24, t25, rfl, ha, hp, h0, h1, h2, h3, h4, hb, hL⟩ hun hd K' hK
      simp only [Act.put, List.setIfInBounds_toArray, List.set_cons_zero, List.set_cons_succ] at ha
      subst ha
      obtain rfl : g2 = false := hun
      obtain rfl : f2 = true := by cases f2; exact Bool.noConfusion (show false = true from hd); rfl
      obtain rfl : p = false := by cases p; rfl; exact absurd (hp rfl) (by simp)
      have hl : Live w' W.heap.size ((rowFl f0 g0 134 4 t3 t6 es.length (es.flatMap eCells) ++ (rowFl f1 g1 3 1 t7 t10 pu.length (pu.map (Value.int .i64)))) ++ (42, 5, t11, 0, []) :: (rowFl f3 g3 3 1 t17 t20 nu.length (nu.map (Value.int .i64)) ++ (rowFl f4 g4 3 1 t21 t24 sa.length (sa.map (Value.int .i64))))) := by simpa only [rowFl, List.nil_append, List.append_nil, List.append_assoc, List.cons_append] using hL
      have hsz : ds.length ≤ 1048576 := (unhide HSM).2.2.1
      refine step_copy (by rfl) _ _ 26 (by rfl) W.heap.size 42 5 40 elD t11 (by rfl) (live_pair.1 hl).2.1 a2 ds.length k2 (ds.flatMap dCells) (by rfl) (srcD ((unhide HRR).2.2.1.bel hb)) (by unfold maxLen; omega) (by omega) hb.size ?_
      intro v' w2 ho hg hv
      have hb2 : Below W.heap.size W w2 := hb.grown hg hb.size (fun k hk => ((live_pair.1 hl).2.1.lt k hk).1)
      refine hK.out _ _ ((unhide HX).bel hb2) ?_
      refine ⟨f0, f1, true, f3, f4, g0, g1, true, g3, g4, false, t3, t6, t7, t10, t11, v', t17, t20, t21, t24, t25, (by simp only [List.setIfInBounds_toArray, List.set_cons_zero, List.set_cons_succ]), (by simp only [Act.put, List.setIfInBounds_toArray, List.set_cons_zero, List.set_cons_succ]), (fun h => absurd h (by simp)), h0, h1, (fun _ => rfl), h3, h4, hb2, ?_⟩
      simpa only [rowFl, List.nil_append, List.append_nil, List.append_assoc, List.cons_append] using live_grow hl hg ho hv
    refine StepsI.cons (i := 14) (o := { dst := some 17, op := _, type := _, pos := _, after := _, guard := _ }) rfl ?_ ?_
    · as_aux_lemma =>
      rintro listed a w' ⟨f0, f1, f2, f3, f4, g0, g1, g2, g3, g4, p, t3, t6, t7, t10, t11, t14, t17, t20, t21, t24, t25, rfl, ha, hp, h0, h1, h2, h3, h4, hb, hL⟩ hun hd K' hK
      simp only [Act.put, List.setIfInBounds_toArray, List.set_cons_zero, List.set_cons_succ] at ha
      subst ha
      obtain rfl : f3 = false := hun
      obtain rfl : g3 = false := by cases g3; rfl; exact absurd (h3 rfl) (by simp)
      obtain rfl : p = false := by cases p; rfl; exact absurd (hp rfl) (by simp)
      go_simp
      have hl := live_new (A := (rowFl f0 g0 134 4 t3 t6 es.length (es.flatMap eCells) ++ (rowFl f1 g1 3 1 t7 t10 pu.length (pu.map (Value.int .i64)) ++ (rowFl f2 g2 42 5 t11 t14 ds.length (ds.flatMap dCells))))) (C := rowFl f4 g4 3 1 t21 t24 sa.length (sa.map (Value.int .i64))) (T := 3) (n := 1) (v := .slice (some ⟨w'.heap.size, 0, none⟩) 0 0) (m := 0) (cs := []) (by simpa only [rowFl, List.nil_append, List.append_nil, List.append_assoc] using hL) (below_a (.cells #[] 3)) (World.ownsRow_lit w' #[] 0 hb.size (by decide) rfl) (fun k hk => by simp [Value.ownBlock] at hk; omega)
      refine hK.out _ _ (((unhide HX).bel hb).bel (below_a _)) ?_
      refine ⟨f0, f1, f2, true, f4, g0, g1, g2, false, g4, false, t3, t6, t7, t10, t11, t14, (.slice (some ⟨w'.heap.size, 0, none⟩) 0 0), t20, t21, t24, t25, (by simp only [List.setIfInBounds_toArray, List.set_cons_zero, List.set_cons_succ]), (by simp only [Act.put, List.setIfInBounds_toArray, List.set_cons_zero, List.set_cons_succ]), (fun h => absurd h (by simp)), h0, h1, h2, (fun h => absurd h (by simp)), h4, below_then hb (below_a _), ?_⟩
      simpa only [rowFl, List.nil_append, List.append_nil, List.append_assoc, List.cons_append] using hl
    refine StepsI.cons (i := 17) (o := { dst := some 20, op := _, type := _, pos := _, after := _, guard := _ }) rfl ?_ ?_
    · as_aux_lemma =>
      rintro listed a w' ⟨f0, f1, f2, f3, f4, g0, g1, g2, g3, g4, p, t3, t6, t7, t10, t11, t14, t17, t20, t21, t24, t25, rfl, ha, hp, h0, h1, h2, h3, h4, hb, hL⟩ hun hd K' hK
      simp only [Act.put, List.setIfInBounds_toArray, List.set_cons_zero, List.set_cons_succ] at ha
      subst ha
      obtain rfl : g3 = false := hun
      obtain rfl : f3 = true := by cases f3; exact Bool.noConfusion (show false = true from hd); rfl
      obtain rfl : p = false := by cases p; rfl; exact absurd (hp rfl) (by simp)
      have hl : Live w' W.heap.size ((rowFl f0 g0 134 4 t3 t6 es.length (es.flatMap eCells) ++ (rowFl f1 g1 3 1 t7 t10 pu.length (pu.map (Value.int .i64)) ++ (rowFl f2 g2 42 5 t11 t14 ds.length (ds.flatMap dCells)))) ++ (3, 1, t17, 0, []) :: rowFl f4 g4 3 1 t21 t24 sa.length (sa.map (Value.int .i64))) := by simpa only [rowFl, List.nil_append, List.append_nil, List.append_assoc, List.cons_append] using hL
      have hsz : nu.length ≤ 1048576 := (unhide HSM).2.2.2.1
      refine step_copy (by rfl) _ _ 23 (by rfl) W.heap.size 3 1 8 elI t17 (by rfl) (live_pair.1 hl).2.1 a4 nu.length k4 (nu.map (Value.int .i64)) (by rfl) (srcI ((unhide HRR).2.2.2.1.bel hb)) (by unfold maxLen; omega) (by omega) hb.size ?_
      intro v' w2 ho hg hv
      have hb2 : Below W.heap.size W w2 := hb.grown hg hb.size (fun k hk => ((live_pair.1 hl).2.1.lt k hk).1)
      refine hK.out _ _ ((unhide HX).bel hb2) ?_
      refine ⟨f0, f1, f2, true, f4, g0, g1, g2, true, g4, false, t3, t6, t7, t10, t11, t14, t17, v', t21, t24, t25, (by simp only [List.setIfInBounds_toArray, List.set_cons_zero, List.set_cons_succ]), (by simp only [Act.put, List.setIfInBounds_toArray, List.set_cons_zero, List.set_cons_succ]), (fun h => absurd h (by simp)), h0, h1, h2, (fun _ => rfl), h4, hb2, ?_⟩
      simpa only [rowFl, List.nil_append, List.append_nil, List.append_assoc, List.cons_append] using live_grow hl hg ho hv
    refine StepsI.cons (i := 18) (o := { dst := some 21, op := _, type := _, pos := _, after := _, guard := _ }) rfl ?_ ?_
    · as_aux_lemma =>
      rintro listed a w' ⟨f0, f1, f2, f3, f4, g0, g1, g2, g3, g4, p, t3, t6, t7, t10, t11, t14, t17, t20, t21, t24, t25, rfl, ha, hp, h0, h1, h2, h3, h4, hb, hL⟩ hun hd K' hK
      simp only [Act.put, List.setIfInBounds_toArray, List.set_cons_zero, List.set_cons_succ] at ha
      subst ha
      obtain rfl : f4 = false := hun
      obtain rfl : g4 = false := by cases g4; rfl; exact absurd (h4 rfl) (by simp)
      obtain rfl : p = false := by cases p; rfl; exact absurd (hp rfl) (by simp)
      go_simp
      have hl := live_new (A := (rowFl f0 g0 134 4 t3 t6 es.length (es.flatMap eCells) ++ (rowFl f1 g1 3 1 t7 t10 pu.length (pu.map (Value.int .i64)) ++ (rowFl f2 g2 42 5 t11 t14 ds.length (ds.flatMap dCells) ++ (rowFl f3 g3 3 1 t17 t20 nu.length (nu.map (Value.int .i64))))))) (C := ([] : List LRow)) (T := 3) (n := 1) (v := .slice (some ⟨w'.heap.size, 0, none⟩) 0 0) (m := 0) (cs := []) (by simpa only [rowFl, List.nil_append, List.append_nil, List.append_assoc] using hL) (below_a (.cells #[] 3)) (World.ownsRow_lit w' #[] 0 hb.size (by decide) rfl) (fun k hk => by simp [Value.ownBlock] at hk; omega)
      refine hK.out _ _ (((unhide HX).bel hb).bel (below_a _)) ?_
      refine ⟨f0, f1, f2, f3, true, g0, g1, g2, g3, false, false, t3, t6, t7, t10, t11, t14, t17, t20, (.slice (some ⟨w'.heap.size, 0, none⟩) 0 0), t24, t25, (by simp only [List.setIfInBounds_toArray, List.set_cons_zero, List.set_cons_succ]), (by simp only [Act.put, List.setIfInBounds_toArray, List.set_cons_zero, List.set_cons_succ]), (fun h => absurd h (by simp)), h0, h1, h2, h3, (fun h => absurd h (by simp)), below_then hb (below_a _), ?_⟩
      simpa only [rowFl, List.nil_append, List.append_nil, List.append_assoc, List.cons_append] using hl
    refine StepsI.cons (i := 21) (o := { dst := some 24, op := _, type := _, pos := _, after := _, guard := _ }) rfl ?_ ?_
    · as_aux_lemma =>
      rintro listed a w' ⟨f0, f1, f2, f3, f4, g0, g1, g2, g3, g4, p, t3, t6, t7, t10, t11, t14, t17, t20, t21, t24, t25, rfl, ha, hp, h0, h1, h2, h3, h4, hb, hL⟩ hun hd K' hK
      simp only [Act.put, List.setIfInBounds_toArray, List.set_cons_zero, List.set_cons_succ] at ha
      subst ha
      obtain rfl : g4 = false := hun
      obtain rfl : f4 = true := by cases f4; exact Bool.noConfusion (show false = true from hd); rfl
      obtain rfl : p = false := by cases p; rfl; exact absurd (hp rfl) (by simp)
      have hl : Live w' W.heap.size ((rowFl f0 g0 134 4 t3 t6 es.length (es.flatMap eCells) ++ (rowFl f1 g1 3 1 t7 t10 pu.length (pu.map (Value.int .i64)) ++ (rowFl f2 g2 42 5 t11 t14 ds.length (ds.flatMap dCells) ++ (rowFl f3 g3 3 1 t17 t20 nu.length (nu.map (Value.int .i64)))))) ++ (3, 1, t21, 0, []) :: ([] : List LRow)) := by simpa only [rowFl, List.nil_append, List.append_nil, List.append_assoc, List.cons_append] using hL
      have hsz : sa.length ≤ 1048576 := (unhide HSM).2.2.2.2
      refine step_copy (by rfl) _ _ 23 (by rfl) W.heap.size 3 1 8 elI t21 (by rfl) (live_pair.1 hl).2.1 a5 sa.length k5 (sa.map (Value.int .i64)) (by rfl) (srcI ((unhide HRR).2.2.2.2.bel hb)) (by unfold maxLen; omega) (by omega) hb.size ?_
      intro v' w2 ho hg hv
      have hb2 : Below W.heap.size W w2 := hb.grown hg hb.size (fun k hk => ((live_pair.1 hl).2.1.lt k hk).1)
      refine hK.out _ _ ((unhide HX).bel hb2) ?_
      refine ⟨f0, f1, f2, f3, true, g0, g1, g2, g3, true, false, t3, t6, t7, t10, t11, t14, t17, t20, t21, v', t25, (by simp only [List.setIfInBounds_toArray, List.set_cons_zero, List.set_cons_succ]), (by simp only [Act.put, List.setIfInBounds_toArray, List.set_cons_zero, List.set_cons_succ]), (fun h => absurd h (by simp)), h0, h1, h2, h3, (fun _ => rfl), hb2, ?_⟩
      simpa only [rowFl, List.nil_append, List.append_nil, List.append_assoc, List.cons_append] using live_grow hl hg ho hv
    refine StepsI.cons (i := 22) (o := { dst := some 25, op := _, type := _, pos := _, after := _, guard := _ }) rfl ?_ ?_
    · as_aux_lemma =>
      rintro listed a w' ⟨f0, f1, f2, f3, f4, g0, g1, g2, g3, g4, p, t3, t6, t7, t10, t11, t14, t17, t20, t21, t24, t25, rfl, ha, hp, h0, h1, h2, h3, h4, hb, hL⟩ hun hd K' hK
      simp only [Act.put, List.setIfInBounds_toArray, List.set_cons_zero, List.set_cons_succ] at ha
      subst ha
      obtain rfl : p = false := hun
      obtain rfl : g0 = true := by cases g0; exact Bool.noConfusion (show false = true from hd); rfl
      obtain rfl : g1 = true := by cases g1; exact Bool.noConfusion (show false = true from hd); rfl
      obtain rfl : g2 = true := by cases g2; exact Bool.noConfusion (show false = true from hd); rfl
      obtain rfl : g3 = true := by cases g3; exact Bool.noConfusion (show false = true from hd); rfl
      obtain rfl : g4 = true := by cases g4; exact Bool.noConfusion (show false = true from hd); rfl
      obtain rfl : f0 = true := h0 rfl
      obtain rfl : f1 = true := h1 rfl
      obtain rfl : f2 = true := h2 rfl
      obtain rfl : f3 = true := h3 rfl
      obtain rfl : f4 = true := h4 rfl
      obtain ⟨b0, j0, b1, j1, b2, j2, b4, j4, b5, j5, rfl, rfl, rfl, rfl, rfl, ho⟩ := copies5 ((unhide HRR).bel hb) hL
      refine step_value (v := .agg #[.slice b0 es.length j0, .slice b1 pu.length j1, .slice b2 ds.length j2, .int .i64 cl, .slice b4 nu.length j4, .slice b5 sa.length j5]) (by rfl) (bldE _ _ (by rfl) (by rfl) (by rfl) (by rfl) (by rfl) (by rfl)) ?_
      refine hK.out _ _ ((unhide HX).bel hb) ?_
      refine ⟨true, true, true, true, true, true, true, true, true, true, true, t3, (.slice b0 es.length j0), t7, (.slice b1 pu.length j1), t11, (.slice b2 ds.length j2), t17, (.slice b4 nu.length j4), t21, (.slice b5 sa.length j5), (.agg #[.slice b0 es.length j0, .slice b1 pu.length j1, .slice b2 ds.length j2, .int .i64 cl, .slice b4 nu.length j4, .slice b5 sa.length j5]), (by simp only [List.setIfInBounds_toArray, List.set_cons_zero, List.set_cons_succ]), (by simp only [Act.put, List.setIfInBounds_toArray, List.set_cons_zero, List.set_cons_succ]), (fun _ => ⟨rfl, rfl, rfl, rfl, rfl, rfl⟩), h0, h1, h2, h3, h4, hb, hL⟩
    exact StepsI.nil
  · rintro listed a w' ⟨f0, f1, f2, f3, f4, g0, g1, g2, g3, g4, p, t3, t6, t7, t10, t11, t14, t17, t20, t21, t24, t25, rfl, ha, hp, h0, h1, h2, h3, h4, hb, hL⟩ hall
    simp only [Act.put, List.setIfInBounds_toArray, List.set_cons_zero, List.set_cons_succ] at ha
    subst ha
    obtain rfl : p = true := hall 22 (by simp)
    obtain ⟨rfl, rfl, rfl, rfl, rfl, rfl⟩ := hp rfl
    obtain rfl : f0 = true := h0 rfl
    obtain rfl : f1 = true := h1 rfl
    obtain rfl : f2 = true := h2 rfl
    obtain rfl : f3 = true := h3 rfl
    obtain rfl : f4 = true := h4 rfl
    obtain ⟨b0, j0, b1, j1, b2, j2, b4, j4, b5, j5, rfl, rfl, rfl, rfl, rfl, ho⟩ := copies5 ((unhide HRR).bel hb) hL
    have HOO := hide ho
    clear hall hp h0 h1 h2 h3 h4 ho hL hHeld HD
    replace HB := hide (below_tr (unhide HB) hb)
    replace HX := hide ((unhide HX).bel hb)
    replace HY := hide ((unhide HY).bel hb)
    clear hb
    refine wpAnyH_ready (rs := [23]) (by kernel_rfl) (by simp) ?_
    refine AllReadyH.cons (o := { dst := none, op := _, type := _, pos := _, after := _, guard := _ }) rfl (fun K hK => ?_) AllReadyH.nil
    have y0 := (unhide HY).cell 0 rfl
    have y0f := (unhide HY).frozen 0 rfl
    have y1 := (unhide HY).cell 1 rfl
    have y1f := (unhide HY).frozen 1 rfl
    have y2 := (unhide HY).cell 2 rfl
    have y2f := (unhide HY).frozen 2 rfl
    have y3 := (unhide HY).cell 3 rfl
    have y3f := (unhide HY).frozen 3 rfl
    have y4 := (unhide HY).cell 4 rfl
    have y4f := (unhide HY).frozen 4 rfl
    have y5 := (unhide HY).cell 5 rfl
    have y5f := (unhide HY).frozen 5 rfl
    have hbs := unhide HBS
    go_simp
    (try clear y0 y0f y1 y1f y2 y2f y3 y3f y4 y4f y5 y5f)
    replace HX := hide ((unhide HX).oth (g' := w.heap.size + 1) (i := 0) (.slice b0 es.length j0) (by omega))
    replace HY := hide (box_put (unhide HY) 0 (.slice b0 es.length j0) (by simp))
    replace HOO := hide ((unhide HOO).kg (grown_cel _ (w.heap.size + 1) 0 (.slice b0 es.length j0)) (by omega))
    replace HB := hide (below_sc (p := ⟨w.heap.size + 1, 0, none⟩) (v := .slice b0 es.length j0) (unhide HB) (by dsimp only; omega))
    replace HX := hide ((unhide HX).oth (g' := w.heap.size + 1) (i := 1) (.slice b1 pu.length j1) (by omega))
    replace HY := hide (box_put (unhide HY) 1 (.slice b1 pu.length j1) (by simp))
    replace HOO := hide ((unhide HOO).kg (grown_cel _ (w.heap.size + 1) 1 (.slice b1 pu.length j1)) (by omega))
    replace HB := hide (below_sc (p := ⟨w.heap.size + 1, 1, none⟩) (v := .slice b1 pu.length j1) (unhide HB) (by dsimp only; omega))
    replace HX := hide ((unhide HX).oth (g' := w.heap.size + 1) (i := 2) (.slice b2 ds.length j2) (by omega))
    replace HY := hide (box_put (unhide HY) 2 (.slice b2 ds.length j2) (by simp))
    replace HOO := hide ((unhide HOO).kg (grown_cel _ (w.heap.size + 1) 2 (.slice b2 ds.length j2)) (by omega))
    replace HB := hide (below_sc (p := ⟨w.heap.size + 1, 2, none⟩) (v := .slice b2 ds.length j2) (unhide HB) (by dsimp only; omega))
    replace HX := hide ((unhide HX).oth (g' := w.heap.size + 1) (i := 3) (.int .i64 cl) (by omega))
    replace HY := hide (box_put (unhide HY) 3 (.int .i64 cl) (by simp))
    replace HOO := hide ((unhide HOO).kg (grown_cel _ (w.heap.size + 1) 3 (.int .i64 cl)) (by omega))
    replace HB := hide (below_sc (p := ⟨w.heap.size + 1, 3, none⟩) (v := .int .i64 cl) (unhide HB) (by dsimp only; omega))
    replace HX := hide ((unhide HX).oth (g' := w.heap.size + 1) (i := 4) (.slice b4 nu.length j4) (by omega))
    replace HY := hide (box_put (unhide HY) 4 (.slice b4 nu.length j4) (by simp))
    replace HOO := hide ((unhide HOO).kg (grown_cel _ (w.heap.size + 1) 4 (.slice b4 nu.length j4)) (by omega))
    replace HB := hide (below_sc (p := ⟨w.heap.size + 1, 4, none⟩) (v := .slice b4 nu.length j4) (unhide HB) (by dsimp only; omega))
    replace HX := hide ((unhide HX).oth (g' := w.heap.size + 1) (i := 5) (.slice b5 sa.length j5) (by omega))
    replace HY := hide (box_put (unhide HY) 5 (.slice b5 sa.length j5) (by simp))
    replace HOO := hide ((unhide HOO).kg (grown_cel _ (w.heap.size + 1) 5 (.slice b5 sa.length j5)) (by omega))
    replace HB := hide (below_sc (p := ⟨w.heap.size + 1, 5, none⟩) (v := .slice b5 sa.length j5) (unhide HB) (by dsimp only; omega))
    replace HY := hide (show Box _ (w.heap.size + 1) [.slice b0 es.length j0, .slice b1 pu.length j1, .slice b2 ds.length j2, .int .i64 cl, .slice b4 nu.length j4, .slice b5 sa.length j5] from unhide HY)
    have y0 := (unhide HY).cell 0 rfl
    have y1 := (unhide HY).cell 1 rfl
    have y2 := (unhide HY).cell 2 rfl
    have y3 := (unhide HY).cell 3 rfl
    have y4 := (unhide HY).cell 4 rfl
    have y5 := (unhide HY).cell 5 rfl
    refine hK.out _ _ (unhide HX) (fun hHeld => ?_)
    clear hK K hHeld
    refine wpAnyH_done (by kernel_rfl) ?_ _
    go_wp2_with fail
    exact bodyPost_ret (v := hV ⟨b0, j0, b1, j1, b2, j2, b4, j4, b5, j5⟩ ⟨es, pu, ds, cl, nu, sa⟩) (results_c Try.results119 rfl (load_house (unhide HY))) rfl ⟨⟨b0, j0, b1, j1, b2, j2, b4, j4, b5, j5⟩, rfl, (unhide HOO).lower (by omega), unhide HB⟩
end Go.Proofs.Ytmlbphmbffkdnaa
