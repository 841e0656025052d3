/-
  Texts of the proof, what it needs of them: Mnew, Hout.
-/
import Derived.Test.YtmlbphmbffkdnaaGt15
import Derived.Test.YtmlbphmbffkdnaaGt20
import Derived.Test.YtmlbphmbffkdnaaGt22
import Derived.Test.YtmlbphmbffkdnaaGt27
import Derived.Test.YtmlbphmbffkdnaaGt28
namespace Go.Proofs.Ytmlbphmbffkdnaa
open Go.RowKit
set_option linter.unusedVariables false
set_option maxRecDepth 100000

def HTold (w : World) (h : House) (e : Ending) (w' : World) : Prop := ∃ q, e = .returned (hV q h) ∧ HOwn w' w.heap.size q h ∧ Below w.heap.size w w'
end Go.Proofs.Ytmlbphmbffkdnaa
namespace Go.Proofs.Ytmlbphmbffkdnaa
open Go.RowKit
set_option linter.unusedVariables false
set_option maxRecDepth 100000

theorem DOwn.kg {W W' : World} {base r : Nat} {v : Value} {es : List Tm.Deal} (h : DOwn W base v es) (hg : W.grownBy W' (some r)) (hr : r < base) : DOwn W' base v es :=
  h.kpt hg (fun b hb e => by have := h.2.lt b hb; cases e; omega)
theorem EOwn.monoH {w : World} {base base' : Nat} {v : Value} {zs : List Tm.Ent} (h : EOwn w base v zs) (hb : base' ≤ base) : EOwn w base' v zs := ⟨h.1, owns_mono h.2 hb⟩
theorem DOwn.monoH {w : World} {base base' : Nat} {v : Value} {zs : List Tm.Deal} (h : DOwn w base v zs) (hb : base' ≤ base) : DOwn w base' v zs := ⟨h.1, owns_mono h.2 hb⟩
theorem apt_ne {a b n m c d : Nat} (h : a ≠ b) : Apt (.slice (some ⟨a, 0, none⟩) n c) (.slice (some ⟨b, 0, none⟩) m d) := by
  intro x hx e
  simp only [Value.ownBlock, Option.some.injEq] at hx e
  omega
theorem load_house {W : World} {g : Nat} {x0 x1 x2 x3 x4 x5 : Value} (h : Box W g [x0, x1, x2, x3, x4, x5]) : (Go.loadVar 28 ⟨g, 0, none⟩).run Try.prog W = .ok (.agg #[x0, x1, x2, x3, x4, x5]) W := by
  have c0 := h.cell 0 rfl
  have c1 := h.cell 1 rfl
  have c2 := h.cell 2 rfl
  have c3 := h.cell 3 rfl
  have c4 := h.cell 4 rfl
  have c5 := h.cell 5 rfl
  simp [go_sem, c0, c1, c2, c3, c4, c5]

set_option maxHeartbeats 8000000 in
theorem c83 (h : House) (q : HP) (w : World) (hs : Small h) (hr : HRow w q h) : Calls Try.prog 83 #[hV q h] w (HTold w h) := by
  obtain ⟨es, pu, ds, cl, nu, sa⟩ := h
  obtain ⟨a0, k0, a1, k1, a2, k2, a4, k4, a5, k5⟩ := q
  obtain ⟨hs0, hs1, hs2, hs4, hs5⟩ := hs
  have HR := hide hr
  clear hr
  dsimp only at hs0 hs1 hs2 hs4 hs5
  have HB := hide (Below.refl w.heap.size w)
  replace HB := hide (below_al (o := .cells #[.slice a0 es.length k0, .slice a1 pu.length k1, .slice a2 ds.length k2, .int .i64 cl, .slice a4 nu.length k4, .slice a5 sa.length k5] 96) (unhide HB))
  have HX := hide (box_new w [.slice a0 es.length k0, .slice a1 pu.length k1, .slice a2 ds.length k2, .int .i64 cl, .slice a4 nu.length k4, .slice a5 sa.length k5] 96 (by simp [Value.oneCell']))
  (try simp only [World.size_alloc] at HX)
  replace HB := hide (below_al (o := .cells #[.slice none 0 0, .slice none 0 0, .slice none 0 0, .int .i64 0, .slice none 0 0, .slice none 0 0] 28) (unhide HB))
  replace HX := hide ((unhide HX).bel (below_a (.cells #[.slice none 0 0, .slice none 0 0, .slice none 0 0, .int .i64 0, .slice none 0 0, .slice none 0 0] 28)))
  have HZ := hide (box_new (w.alloc (.cells #[.slice a0 es.length k0, .slice a1 pu.length k1, .slice a2 ds.length k2, .int .i64 cl, .slice a4 nu.length k4, .slice a5 sa.length k5] 96)) [.slice none 0 0, .slice none 0 0, .slice none 0 0, .int .i64 0, .slice none 0 0, .slice none 0 0] 28 (by simp [Value.oneCell']))
  (try simp only [World.size_alloc] at HZ)
  replace HB := hide (below_al (o := .cells #[.slice none 0 0, .slice none 0 0, .slice none 0 0, .int .i64 0, .slice none 0 0, .slice none 0 0] 28) (unhide HB))
  replace HX := hide ((unhide HX).bel (below_a (.cells #[.slice none 0 0, .slice none 0 0, .slice none 0 0, .int .i64 0, .slice none 0 0, .slice none 0 0] 28)))
  replace HZ := hide ((unhide HZ).bel (below_a (.cells #[.slice none 0 0, .slice none 0 0, .slice none 0 0, .int .i64 0, .slice none 0 0, .slice none 0 0] 28)))
  have HY := hide (box_new ((w.alloc (.cells #[.slice a0 es.length k0, .slice a1 pu.length k1, .slice a2 ds.length k2, .int .i64 cl, .slice a4 nu.length k4, .slice a5 sa.length k5] 96)).alloc (.cells #[.slice none 0 0, .slice none 0 0, .slice none 0 0, .int .i64 0, .slice none 0 0, .slice none 0 0] 28)) [.slice none 0 0, .slice none 0 0, .slice none 0 0, .int .i64 0, .slice none 0 0, .slice none 0 0] 28 (by simp [Value.oneCell']))
  (try simp only [World.size_alloc] at HY)
  have x0 := (unhide HX).cell 0 rfl
  have x1 := (unhide HX).cell 1 rfl
  have x2 := (unhide HX).cell 2 rfl
  have x3 := (unhide HX).cell 3 rfl
  have x4 := (unhide HX).cell 4 rfl
  have x5 := (unhide HX).cell 5 rfl
  have z0 := (unhide HZ).cell 0 rfl
  have z0f := (unhide HZ).frozen 0 rfl
  have z1 := (unhide HZ).cell 1 rfl
  have z1f := (unhide HZ).frozen 1 rfl
  have z2 := (unhide HZ).cell 2 rfl
  have z2f := (unhide HZ).frozen 2 rfl
  have z3 := (unhide HZ).cell 3 rfl
  have z3f := (unhide HZ).frozen 3 rfl
  have z4 := (unhide HZ).cell 4 rfl
  have z4f := (unhide HZ).frozen 4 rfl
  have z5 := (unhide HZ).cell 5 rfl
  have z5f := (unhide HZ).frozen 5 rfl
  have y0 := (unhide HY).cell 0 rfl
  have y0f := (unhide HY).frozen 0 rfl
  have y1 := (unhide HY).cell 1 rfl
  have y1f := (unhide HY).frozen 1 rfl
  have y2 := (unhide HY).cell 2 rfl
  have y2f := (unhide HY).frozen 2 rfl
  have y3 := (unhide HY).cell 3 rfl
  have y3f := (unhide HY).frozen 3 rfl
  have y4 := (unhide HY).cell 4 rfl
  have y4f := (unhide HY).frozen 4 rfl
  have y5 := (unhide HY).cell 5 rfl
  have y5f := (unhide HY).frozen 5 rfl
  go_enter Try.func83, Try.ntmps83
  go_wp2_with fail
  refine (c162 es a0 es.length k0 _ rfl hs0 (((unhide HR).1).bel (unhide HB))).mono ?_
  rintro e w1 ⟨rfl, ho, hb⟩
  (try simp only [World.size_alloc] at ho)
  (try clear x0 x1 x2 x3 x4 x5 z0 z0f z1 z1f z2 z2f z3 z3f z4 z4f z5 z5f y0 y0f y1 y1f y2 y2f y3 y3f y4 y4f y5 y5f)
  replace HB := hide (below_tr (unhide HB) hb)
  replace HX := hide ((unhide HX).bel hb)
  replace HZ := hide ((unhide HZ).bel hb)
  replace HY := hide ((unhide HY).bel hb)
  have HO0 := hide (ho)
  clear hb ho
  have x0 := (unhide HX).cell 0 rfl
  have x1 := (unhide HX).cell 1 rfl
  have x2 := (unhide HX).cell 2 rfl
  have x3 := (unhide HX).cell 3 rfl
  have x4 := (unhide HX).cell 4 rfl
  have x5 := (unhide HX).cell 5 rfl
  have z0 := (unhide HZ).cell 0 rfl
  have z0f := (unhide HZ).frozen 0 rfl
  have z1 := (unhide HZ).cell 1 rfl
  have z1f := (unhide HZ).frozen 1 rfl
  have z2 := (unhide HZ).cell 2 rfl
  have z2f := (unhide HZ).frozen 2 rfl
  have z3 := (unhide HZ).cell 3 rfl
  have z3f := (unhide HZ).frozen 3 rfl
  have z4 := (unhide HZ).cell 4 rfl
  have z4f := (unhide HZ).frozen 4 rfl
  have z5 := (unhide HZ).cell 5 rfl
  have z5f := (unhide HZ).frozen 5 rfl
  have y0 := (unhide HY).cell 0 rfl
  have y0f := (unhide HY).frozen 0 rfl
  have y1 := (unhide HY).cell 1 rfl
  have y1f := (unhide HY).frozen 1 rfl
  have y2 := (unhide HY).cell 2 rfl
  have y2f := (unhide HY).frozen 2 rfl
  have y3 := (unhide HY).cell 3 rfl
  have y3f := (unhide HY).frozen 3 rfl
  have y4 := (unhide HY).cell 4 rfl
  have y4f := (unhide HY).frozen 4 rfl
  have y5 := (unhide HY).cell 5 rfl
  have y5f := (unhide HY).frozen 5 rfl
  go_wp2_with fail
  have hlt0 := (unhide HO0).2.lt _ rfl
  replace hlt0 := hlt0.2
  have hgz0 := (unhide HY).lt
  (try clear x0 x1 x2 x3 x4 x5 z0 z0f z1 z1f z2 z2f z3 z3f z4 z4f z5 z5f y0 y0f y1 y1f y2 y2f y3 y3f y4 y4f y5 y5f)
  replace HX := hide ((unhide HX).oth (g' := w.heap.size + 1 + 1) (i := 0) (.slice (some ⟨w.heap.size + 1 + 1 + 1, 0, none⟩) es.length es.length) (by omega))
  replace HZ := hide ((unhide HZ).oth (g' := w.heap.size + 1 + 1) (i := 0) (.slice (some ⟨w.heap.size + 1 + 1 + 1, 0, none⟩) es.length es.length) (by omega))
  replace HY := hide (box_put (unhide HY) 0 (.slice (some ⟨w.heap.size + 1 + 1 + 1, 0, none⟩) es.length es.length) (by simp))
  replace HO0 := hide ((unhide HO0).kg (grown_cel _ (w.heap.size + 1 + 1) 0 (.slice (some ⟨w.heap.size + 1 + 1 + 1, 0, none⟩) es.length es.length)) (by omega))
  replace HB := hide (below_sc (p := ⟨w.heap.size + 1 + 1, 0, none⟩) (v := .slice (some ⟨w.heap.size + 1 + 1 + 1, 0, none⟩) es.length es.length) (unhide HB) (by dsimp only; omega))
  replace HY := hide (show Box _ (w.heap.size + 1 + 1) [.slice (some ⟨w.heap.size + 1 + 1 + 1, 0, none⟩) es.length es.length, .slice none 0 0, .slice none 0 0, .int .i64 0, .slice none 0 0, .slice none 0 0] from unhide HY)
  have x0 := (unhide HX).cell 0 rfl
  have x1 := (unhide HX).cell 1 rfl
  have x2 := (unhide HX).cell 2 rfl
  have x3 := (unhide HX).cell 3 rfl
  have x4 := (unhide HX).cell 4 rfl
  have x5 := (unhide HX).cell 5 rfl
  have z0 := (unhide HZ).cell 0 rfl
  have z0f := (unhide HZ).frozen 0 rfl
  have z1 := (unhide HZ).cell 1 rfl
  have z1f := (unhide HZ).frozen 1 rfl
  have z2 := (unhide HZ).cell 2 rfl
  have z2f := (unhide HZ).frozen 2 rfl
  have z3 := (unhide HZ).cell 3 rfl
  have z3f := (unhide HZ).frozen 3 rfl
  have z4 := (unhide HZ).cell 4 rfl
  have z4f := (unhide HZ).frozen 4 rfl
  have z5 := (unhide HZ).cell 5 rfl
  have z5f := (unhide HZ).frozen 5 rfl
  have y0 := (unhide HY).cell 0 rfl
  have y0f := (unhide HY).frozen 0 rfl
  have y1 := (unhide HY).cell 1 rfl
  have y1f := (unhide HY).frozen 1 rfl
  have y2 := (unhide HY).cell 2 rfl
  have y2f := (unhide HY).frozen 2 rfl
  have y3 := (unhide HY).cell 3 rfl
  have y3f := (unhide HY).frozen 3 rfl
  have y4 := (unhide HY).cell 4 rfl
  have y4f := (unhide HY).frozen 4 rfl
  have y5 := (unhide HY).cell 5 rfl
  have y5f := (unhide HY).frozen 5 rfl
  clear hgz0
  have hgy1 := (unhide HY).lt
  (try simp only [World.size_setCell] at hgy1)
  refine (c89 pu a1 pu.length k1 _ rfl hs1 (((unhide HR).2.1).bel (unhide HB))).mono ?_
  rintro e w2 ⟨rfl, ho, hb⟩
  (try simp only [World.size_setCell] at ho)
  (try clear x0 x1 x2 x3 x4 x5 z0 z0f z1 z1f z2 z2f z3 z3f z4 z4f z5 z5f y0 y0f y1 y1f y2 y2f y3 y3f y4 y4f y5 y5f)
  replace HB := hide (below_tr (unhide HB) hb)
  replace HX := hide ((unhide HX).bel hb)
  replace HZ := hide ((unhide HZ).bel hb)
  replace HY := hide ((unhide HY).bel hb)
  replace HO0 := hide ((unhide HO0).bel hb)
  have HO1 := hide (ho)
  clear hb ho
  have x0 := (unhide HX).cell 0 rfl
  have x1 := (unhide HX).cell 1 rfl
  have x2 := (unhide HX).cell 2 rfl
  have x3 := (unhide HX).cell 3 rfl
  have x4 := (unhide HX).cell 4 rfl
  have x5 := (unhide HX).cell 5 rfl
  have z0 := (unhide HZ).cell 0 rfl
  have z0f := (unhide HZ).frozen 0 rfl
  have z1 := (unhide HZ).cell 1 rfl
  have z1f := (unhide HZ).frozen 1 rfl
  have z2 := (unhide HZ).cell 2 rfl
  have z2f := (unhide HZ).frozen 2 rfl
  have z3 := (unhide HZ).cell 3 rfl
  have z3f := (unhide HZ).frozen 3 rfl
  have z4 := (unhide HZ).cell 4 rfl
  have z4f := (unhide HZ).frozen 4 rfl
  have z5 := (unhide HZ).cell 5 rfl
  have z5f := (unhide HZ).frozen 5 rfl
  have y0 := (unhide HY).cell 0 rfl
  have y0f := (unhide HY).frozen 0 rfl
  have y1 := (unhide HY).cell 1 rfl
  have y1f := (unhide HY).frozen 1 rfl
  have y2 := (unhide HY).cell 2 rfl
  have y2f := (unhide HY).frozen 2 rfl
  have y3 := (unhide HY).cell 3 rfl
  have y3f := (unhide HY).frozen 3 rfl
  have y4 := (unhide HY).cell 4 rfl
  have y4f := (unhide HY).frozen 4 rfl
  have y5 := (unhide HY).cell 5 rfl
  have y5f := (unhide HY).frozen 5 rfl
  go_wp2_with fail
  have hlt1 := (unhide HO1).2.lt _ rfl
  replace hlt1 := hlt1.2
  have hgz1 := (unhide HY).lt
  (try clear x0 x1 x2 x3 x4 x5 z0 z0f z1 z1f z2 z2f z3 z3f z4 z4f z5 z5f y0 y0f y1 y1f y2 y2f y3 y3f y4 y4f y5 y5f)
  replace HX := hide ((unhide HX).oth (g' := w.heap.size + 1 + 1) (i := 1) (.slice (some ⟨w1.heap.size, 0, none⟩) pu.length pu.length) (by omega))
  replace HZ := hide ((unhide HZ).oth (g' := w.heap.size + 1 + 1) (i := 1) (.slice (some ⟨w1.heap.size, 0, none⟩) pu.length pu.length) (by omega))
  replace HY := hide (box_put (unhide HY) 1 (.slice (some ⟨w1.heap.size, 0, none⟩) pu.length pu.length) (by simp))
  replace HO0 := hide ((unhide HO0).kg (grown_cel _ (w.heap.size + 1 + 1) 1 (.slice (some ⟨w1.heap.size, 0, none⟩) pu.length pu.length)) (by omega))
  replace HO1 := hide ((unhide HO1).kg (grown_cel _ (w.heap.size + 1 + 1) 1 (.slice (some ⟨w1.heap.size, 0, none⟩) pu.length pu.length)) (by omega))
  replace HB := hide (below_sc (p := ⟨w.heap.size + 1 + 1, 1, none⟩) (v := .slice (some ⟨w1.heap.size, 0, none⟩) pu.length pu.length) (unhide HB) (by dsimp only; omega))
  replace HY := hide (show Box _ (w.heap.size + 1 + 1) [.slice (some ⟨w.heap.size + 1 + 1 + 1, 0, none⟩) es.length es.length, .slice (some ⟨w1.heap.size, 0, none⟩) pu.length pu.length, .slice none 0 0, .int .i64 0, .slice none 0 0, .slice none 0 0] from unhide HY)
  have x0 := (unhide HX).cell 0 rfl
  have x1 := (unhide HX).cell 1 rfl
  have x2 := (unhide HX).cell 2 rfl
  have x3 := (unhide HX).cell 3 rfl
  have x4 := (unhide HX).cell 4 rfl
  have x5 := (unhide HX).cell 5 rfl
  have z0 := (unhide HZ).cell 0 rfl
  have z0f := (unhide HZ).frozen 0 rfl
  have z1 := (unhide HZ).cell 1 rfl
  have z1f := (unhide HZ).frozen 1 rfl
  have z2 := (unhide HZ).cell 2 rfl
  have z2f := (unhide HZ).frozen 2 rfl
  have z3 := (unhide HZ).cell 3 rfl
  have z3f := (unhide HZ).frozen 3 rfl
  have z4 := (unhide HZ).cell 4 rfl
  have z4f := (unhide HZ).frozen 4 rfl
  have z5 := (unhide HZ).cell 5 rfl
  have z5f := (unhide HZ).frozen 5 rfl
  have y0 := (unhide HY).cell 0 rfl
  have y0f := (unhide HY).frozen 0 rfl
  have y1 := (unhide HY).cell 1 rfl
  have y1f := (unhide HY).frozen 1 rfl
  have y2 := (unhide HY).cell 2 rfl
  have y2f := (unhide HY).frozen 2 rfl
  have y3 := (unhide HY).cell 3 rfl
  have y3f := (unhide HY).frozen 3 rfl
  have y4 := (unhide HY).cell 4 rfl
  have y4f := (unhide HY).frozen 4 rfl
  have y5 := (unhide HY).cell 5 rfl
  have y5f := (unhide HY).frozen 5 rfl
  clear hgz1
  have hgy2 := (unhide HY).lt
  (try simp only [World.size_setCell] at hgy2)
  refine (c163 ds a2 ds.length k2 _ rfl hs2 (((unhide HR).2.2.1).bel (unhide HB))).mono ?_
  rintro e w3 ⟨rfl, ho, hb⟩
  (try simp only [World.size_setCell] at ho)
  (try clear x0 x1 x2 x3 x4 x5 z0 z0f z1 z1f z2 z2f z3 z3f z4 z4f z5 z5f y0 y0f y1 y1f y2 y2f y3 y3f y4 y4f y5 y5f)
  replace HB := hide (below_tr (unhide HB) hb)
  replace HX := hide ((unhide HX).bel hb)
  replace HZ := hide ((unhide HZ).bel hb)
  replace HY := hide ((unhide HY).bel hb)
  replace HO0 := hide ((unhide HO0).bel hb)
  replace HO1 := hide ((unhide HO1).bel hb)
  have HO2 := hide (ho)
  clear hb ho
  have x0 := (unhide HX).cell 0 rfl
  have x1 := (unhide HX).cell 1 rfl
  have x2 := (unhide HX).cell 2 rfl
  have x3 := (unhide HX).cell 3 rfl
  have x4 := (unhide HX).cell 4 rfl
  have x5 := (unhide HX).cell 5 rfl
  have z0 := (unhide HZ).cell 0 rfl
  have z0f := (unhide HZ).frozen 0 rfl
  have z1 := (unhide HZ).cell 1 rfl
  have z1f := (unhide HZ).frozen 1 rfl
  have z2 := (unhide HZ).cell 2 rfl
  have z2f := (unhide HZ).frozen 2 rfl
  have z3 := (unhide HZ).cell 3 rfl
  have z3f := (unhide HZ).frozen 3 rfl
  have z4 := (unhide HZ).cell 4 rfl
  have z4f := (unhide HZ).frozen 4 rfl
  have z5 := (unhide HZ).cell 5 rfl
  have z5f := (unhide HZ).frozen 5 rfl
  have y0 := (unhide HY).cell 0 rfl
  have y0f := (unhide HY).frozen 0 rfl
  have y1 := (unhide HY).cell 1 rfl
  have y1f := (unhide HY).frozen 1 rfl
  have y2 := (unhide HY).cell 2 rfl
  have y2f := (unhide HY).frozen 2 rfl
  have y3 := (unhide HY).cell 3 rfl
  have y3f := (unhide HY).frozen 3 rfl
  have y4 := (unhide HY).cell 4 rfl
  have y4f := (unhide HY).frozen 4 rfl
  have y5 := (unhide HY).cell 5 rfl
  have y5f := (unhide HY).frozen 5 rfl
  go_wp2_with fail
  have hlt2 := (unhide HO2).2.lt _ rfl
  replace hlt2 := hlt2.2
  have hgz2 := (unhide HY).lt
  (try clear x0 x1 x2 x3 x4 x5 z0 z0f z1 z1f z2 z2f z3 z3f z4 z4f z5 z5f y0 y0f y1 y1f y2 y2f y3 y3f y4 y4f y5 y5f)
  replace HX := hide ((unhide HX).oth (g' := w.heap.size + 1 + 1) (i := 2) (.slice (some ⟨w2.heap.size, 0, none⟩) ds.length ds.length) (by omega))
  replace HZ := hide ((unhide HZ).oth (g' := w.heap.size + 1 + 1) (i := 2) (.slice (some ⟨w2.heap.size, 0, none⟩) ds.length ds.length) (by omega))
  replace HY := hide (box_put (unhide HY) 2 (.slice (some ⟨w2.heap.size, 0, none⟩) ds.length ds.length) (by simp))
  replace HO0 := hide ((unhide HO0).kg (grown_cel _ (w.heap.size + 1 + 1) 2 (.slice (some ⟨w2.heap.size, 0, none⟩) ds.length ds.length)) (by omega))
  replace HO1 := hide ((unhide HO1).kg (grown_cel _ (w.heap.size + 1 + 1) 2 (.slice (some ⟨w2.heap.size, 0, none⟩) ds.length ds.length)) (by omega))
  replace HO2 := hide ((unhide HO2).kg (grown_cel _ (w.heap.size + 1 + 1) 2 (.slice (some ⟨w2.heap.size, 0, none⟩) ds.length ds.length)) (by omega))
  replace HB := hide (below_sc (p := ⟨w.heap.size + 1 + 1, 2, none⟩) (v := .slice (some ⟨w2.heap.size, 0, none⟩) ds.length ds.length) (unhide HB) (by dsimp only; omega))
  replace HY := hide (show Box _ (w.heap.size + 1 + 1) [.slice (some ⟨w.heap.size + 1 + 1 + 1, 0, none⟩) es.length es.length, .slice (some ⟨w1.heap.size, 0, none⟩) pu.length pu.length, .slice (some ⟨w2.heap.size, 0, none⟩) ds.length ds.length, .int .i64 0, .slice none 0 0, .slice none 0 0] from unhide HY)
  have x0 := (unhide HX).cell 0 rfl
  have x1 := (unhide HX).cell 1 rfl
  have x2 := (unhide HX).cell 2 rfl
  have x3 := (unhide HX).cell 3 rfl
  have x4 := (unhide HX).cell 4 rfl
  have x5 := (unhide HX).cell 5 rfl
  have z0 := (unhide HZ).cell 0 rfl
  have z0f := (unhide HZ).frozen 0 rfl
  have z1 := (unhide HZ).cell 1 rfl
  have z1f := (unhide HZ).frozen 1 rfl
  have z2 := (unhide HZ).cell 2 rfl
  have z2f := (unhide HZ).frozen 2 rfl
  have z3 := (unhide HZ).cell 3 rfl
  have z3f := (unhide HZ).frozen 3 rfl
  have z4 := (unhide HZ).cell 4 rfl
  have z4f := (unhide HZ).frozen 4 rfl
  have z5 := (unhide HZ).cell 5 rfl
  have z5f := (unhide HZ).frozen 5 rfl
  have y0 := (unhide HY).cell 0 rfl
  have y0f := (unhide HY).frozen 0 rfl
  have y1 := (unhide HY).cell 1 rfl
  have y1f := (unhide HY).frozen 1 rfl
  have y2 := (unhide HY).cell 2 rfl
  have y2f := (unhide HY).frozen 2 rfl
  have y3 := (unhide HY).cell 3 rfl
  have y3f := (unhide HY).frozen 3 rfl
  have y4 := (unhide HY).cell 4 rfl
  have y4f := (unhide HY).frozen 4 rfl
  have y5 := (unhide HY).cell 5 rfl
  have y5f := (unhide HY).frozen 5 rfl
  clear hgz2
  (try clear x0 x1 x2 x3 x4 x5 z0 z0f z1 z1f z2 z2f z3 z3f z4 z4f z5 z5f y0 y0f y1 y1f y2 y2f y3 y3f y4 y4f y5 y5f)
  replace HX := hide ((unhide HX).oth (g' := w.heap.size + 1 + 1) (i := 3) (.int .i64 cl) (by omega))
  replace HZ := hide ((unhide HZ).oth (g' := w.heap.size + 1 + 1) (i := 3) (.int .i64 cl) (by omega))
  replace HY := hide (box_put (unhide HY) 3 (.int .i64 cl) (by simp))
  replace HO0 := hide ((unhide HO0).kg (grown_cel _ (w.heap.size + 1 + 1) 3 (.int .i64 cl)) (by omega))
  replace HO1 := hide ((unhide HO1).kg (grown_cel _ (w.heap.size + 1 + 1) 3 (.int .i64 cl)) (by omega))
  replace HO2 := hide ((unhide HO2).kg (grown_cel _ (w.heap.size + 1 + 1) 3 (.int .i64 cl)) (by omega))
  replace HB := hide (below_sc (p := ⟨w.heap.size + 1 + 1, 3, none⟩) (v := .int .i64 cl) (unhide HB) (by dsimp only; omega))
  replace HY := hide (show Box _ (w.heap.size + 1 + 1) [.slice (some ⟨w.heap.size + 1 + 1 + 1, 0, none⟩) es.length es.length, .slice (some ⟨w1.heap.size, 0, none⟩) pu.length pu.length, .slice (some ⟨w2.heap.size, 0, none⟩) ds.length ds.length, .int .i64 cl, .slice none 0 0, .slice none 0 0] from unhide HY)
  have x0 := (unhide HX).cell 0 rfl
  have x1 := (unhide HX).cell 1 rfl
  have x2 := (unhide HX).cell 2 rfl
  have x3 := (unhide HX).cell 3 rfl
  have x4 := (unhide HX).cell 4 rfl
  have x5 := (unhide HX).cell 5 rfl
  have z0 := (unhide HZ).cell 0 rfl
  have z0f := (unhide HZ).frozen 0 rfl
  have z1 := (unhide HZ).cell 1 rfl
  have z1f := (unhide HZ).frozen 1 rfl
  have z2 := (unhide HZ).cell 2 rfl
  have z2f := (unhide HZ).frozen 2 rfl
  have z3 := (unhide HZ).cell 3 rfl
  have z3f := (unhide HZ).frozen 3 rfl
  have z4 := (unhide HZ).cell 4 rfl
  have z4f := (unhide HZ).frozen 4 rfl
  have z5 := (unhide HZ).cell 5 rfl
  have z5f := (unhide HZ).frozen 5 rfl
  have y0 := (unhide HY).cell 0 rfl
  have y0f := (unhide HY).frozen 0 rfl
  have y1 := (unhide HY).cell 1 rfl
  have y1f := (unhide HY).frozen 1 rfl
  have y2 := (unhide HY).cell 2 rfl
  have y2f := (unhide HY).frozen 2 rfl
  have y3 := (unhide HY).cell 3 rfl
  have y3f := (unhide HY).frozen 3 rfl
  have y4 := (unhide HY).cell 4 rfl
  have y4f := (unhide HY).frozen 4 rfl
  have y5 := (unhide HY).cell 5 rfl
  have y5f := (unhide HY).frozen 5 rfl
  have hgy4 := (unhide HY).lt
  (try simp only [World.size_setCell] at hgy4)
  refine (c89 nu a4 nu.length k4 _ rfl hs4 (((unhide HR).2.2.2.1).bel (unhide HB))).mono ?_
  rintro e w4 ⟨rfl, ho, hb⟩
  (try simp only [World.size_setCell] at ho)
  (try clear x0 x1 x2 x3 x4 x5 z0 z0f z1 z1f z2 z2f z3 z3f z4 z4f z5 z5f y0 y0f y1 y1f y2 y2f y3 y3f y4 y4f y5 y5f)
  replace HB := hide (below_tr (unhide HB) hb)
  replace HX := hide ((unhide HX).bel hb)
  replace HZ := hide ((unhide HZ).bel hb)
  replace HY := hide ((unhide HY).bel hb)
  replace HO0 := hide ((unhide HO0).bel hb)
  replace HO1 := hide ((unhide HO1).bel hb)
  replace HO2 := hide ((unhide HO2).bel hb)
  have HO4 := hide (ho)
  clear hb ho
  have x0 := (unhide HX).cell 0 rfl
  have x1 := (unhide HX).cell 1 rfl
  have x2 := (unhide HX).cell 2 rfl
  have x3 := (unhide HX).cell 3 rfl
  have x4 := (unhide HX).cell 4 rfl
  have x5 := (unhide HX).cell 5 rfl
  have z0 := (unhide HZ).cell 0 rfl
  have z0f := (unhide HZ).frozen 0 rfl
  have z1 := (unhide HZ).cell 1 rfl
  have z1f := (unhide HZ).frozen 1 rfl
  have z2 := (unhide HZ).cell 2 rfl
  have z2f := (unhide HZ).frozen 2 rfl
  have z3 := (unhide HZ).cell 3 rfl
  have z3f := (unhide HZ).frozen 3 rfl
  have z4 := (unhide HZ).cell 4 rfl
  have z4f := (unhide HZ).frozen 4 rfl
  have z5 := (unhide HZ).cell 5 rfl
  have z5f := (unhide HZ).frozen 5 rfl
  have y0 := (unhide HY).cell 0 rfl
  have y0f := (unhide HY).frozen 0 rfl
  have y1 := (unhide HY).cell 1 rfl
  have y1f := (unhide HY).frozen 1 rfl
  have y2 := (unhide HY).cell 2 rfl
  have y2f := (unhide HY).frozen 2 rfl
  have y3 := (unhide HY).cell 3 rfl
  have y3f := (unhide HY).frozen 3 rfl
  have y4 := (unhide HY).cell 4 rfl
  have y4f := (unhide HY).frozen 4 rfl
  have y5 := (unhide HY).cell 5 rfl
  have y5f := (unhide HY).frozen 5 rfl
  go_wp2_with fail
  have hlt4 := (unhide HO4).2.lt _ rfl
  replace hlt4 := hlt4.2
  have hgz4 := (unhide HY).lt
  (try clear x0 x1 x2 x3 x4 x5 z0 z0f z1 z1f z2 z2f z3 z3f z4 z4f z5 z5f y0 y0f y1 y1f y2 y2f y3 y3f y4 y4f y5 y5f)
  replace HX := hide ((unhide HX).oth (g' := w.heap.size + 1 + 1) (i := 4) (.slice (some ⟨w3.heap.size, 0, none⟩) nu.length nu.length) (by omega))
  replace HZ := hide ((unhide HZ).oth (g' := w.heap.size + 1 + 1) (i := 4) (.slice (some ⟨w3.heap.size, 0, none⟩) nu.length nu.length) (by omega))
  replace HY := hide (box_put (unhide HY) 4 (.slice (some ⟨w3.heap.size, 0, none⟩) nu.length nu.length) (by simp))
  replace HO0 := hide ((unhide HO0).kg (grown_cel _ (w.heap.size + 1 + 1) 4 (.slice (some ⟨w3.heap.size, 0, none⟩) nu.length nu.length)) (by omega))
  replace HO1 := hide ((unhide HO1).kg (grown_cel _ (w.heap.size + 1 + 1) 4 (.slice (some ⟨w3.heap.size, 0, none⟩) nu.length nu.length)) (by omega))
  replace HO2 := hide ((unhide HO2).kg (grown_cel _ (w.heap.size + 1 + 1) 4 (.slice (some ⟨w3.heap.size, 0, none⟩) nu.length nu.length)) (by omega))
  replace HO4 := hide ((unhide HO4).kg (grown_cel _ (w.heap.size + 1 + 1) 4 (.slice (some ⟨w3.heap.size, 0, none⟩) nu.length nu.length)) (by omega))
  replace HB := hide (below_sc (p := ⟨w.heap.size + 1 + 1, 4, none⟩) (v := .slice (some ⟨w3.heap.size, 0, none⟩) nu.length nu.length) (unhide HB) (by dsimp only; omega))
  replace HY := hide (show Box _ (w.heap.size + 1 + 1) [.slice (some ⟨w.heap.size + 1 + 1 + 1, 0, none⟩) es.length es.length, .slice (some ⟨w1.heap.size, 0, none⟩) pu.length pu.length, .slice (some ⟨w2.heap.size, 0, none⟩) ds.length ds.length, .int .i64 cl, .slice (some ⟨w3.heap.size, 0, none⟩) nu.length nu.length, .slice none 0 0] from unhide HY)
  have x0 := (unhide HX).cell 0 rfl
  have x1 := (unhide HX).cell 1 rfl
  have x2 := (unhide HX).cell 2 rfl
  have x3 := (unhide HX).cell 3 rfl
  have x4 := (unhide HX).cell 4 rfl
  have x5 := (unhide HX).cell 5 rfl
  have z0 := (unhide HZ).cell 0 rfl
  have z0f := (unhide HZ).frozen 0 rfl
  have z1 := (unhide HZ).cell 1 rfl
  have z1f := (unhide HZ).frozen 1 rfl
  have z2 := (unhide HZ).cell 2 rfl
  have z2f := (unhide HZ).frozen 2 rfl
  have z3 := (unhide HZ).cell 3 rfl
  have z3f := (unhide HZ).frozen 3 rfl
  have z4 := (unhide HZ).cell 4 rfl
  have z4f := (unhide HZ).frozen 4 rfl
  have z5 := (unhide HZ).cell 5 rfl
  have z5f := (unhide HZ).frozen 5 rfl
  have y0 := (unhide HY).cell 0 rfl
  have y0f := (unhide HY).frozen 0 rfl
  have y1 := (unhide HY).cell 1 rfl
  have y1f := (unhide HY).frozen 1 rfl
  have y2 := (unhide HY).cell 2 rfl
  have y2f := (unhide HY).frozen 2 rfl
  have y3 := (unhide HY).cell 3 rfl
  have y3f := (unhide HY).frozen 3 rfl
  have y4 := (unhide HY).cell 4 rfl
  have y4f := (unhide HY).frozen 4 rfl
  have y5 := (unhide HY).cell 5 rfl
  have y5f := (unhide HY).frozen 5 rfl
  clear hgz4
  have hgy5 := (unhide HY).lt
  (try simp only [World.size_setCell] at hgy5)
  refine (c89 sa a5 sa.length k5 _ rfl hs5 (((unhide HR).2.2.2.2).bel (unhide HB))).mono ?_
  rintro e w5 ⟨rfl, ho, hb⟩
  (try simp only [World.size_setCell] at ho)
  (try clear x0 x1 x2 x3 x4 x5 z0 z0f z1 z1f z2 z2f z3 z3f z4 z4f z5 z5f y0 y0f y1 y1f y2 y2f y3 y3f y4 y4f y5 y5f)
  replace HB := hide (below_tr (unhide HB) hb)
  replace HX := hide ((unhide HX).bel hb)
  replace HZ := hide ((unhide HZ).bel hb)
  replace HY := hide ((unhide HY).bel hb)
  replace HO0 := hide ((unhide HO0).bel hb)
  replace HO1 := hide ((unhide HO1).bel hb)
  replace HO2 := hide ((unhide HO2).bel hb)
  replace HO4 := hide ((unhide HO4).bel hb)
  have HO5 := hide (ho)
  clear hb ho
  have x0 := (unhide HX).cell 0 rfl
  have x1 := (unhide HX).cell 1 rfl
  have x2 := (unhide HX).cell 2 rfl
  have x3 := (unhide HX).cell 3 rfl
  have x4 := (unhide HX).cell 4 rfl
  have x5 := (unhide HX).cell 5 rfl
  have z0 := (unhide HZ).cell 0 rfl
  have z0f := (unhide HZ).frozen 0 rfl
  have z1 := (unhide HZ).cell 1 rfl
  have z1f := (unhide HZ).frozen 1 rfl
  have z2 := (unhide HZ).cell 2 rfl
  have z2f := (unhide HZ).frozen 2 rfl
  have z3 := (unhide HZ).cell 3 rfl
  have z3f := (unhide HZ).frozen 3 rfl
  have z4 := (unhide HZ).cell 4 rfl
  have z4f := (unhide HZ).frozen 4 rfl
  have z5 := (unhide HZ).cell 5 rfl
  have z5f := (unhide HZ).frozen 5 rfl
  have y0 := (unhide HY).cell 0 rfl
  have y0f := (unhide HY).frozen 0 rfl
  have y1 := (unhide HY).cell 1 rfl
  have y1f := (unhide HY).frozen 1 rfl
  have y2 := (unhide HY).cell 2 rfl
  have y2f := (unhide HY).frozen 2 rfl
  have y3 := (unhide HY).cell 3 rfl
  have y3f := (unhide HY).frozen 3 rfl
  have y4 := (unhide HY).cell 4 rfl
  have y4f := (unhide HY).frozen 4 rfl
  have y5 := (unhide HY).cell 5 rfl
  have y5f := (unhide HY).frozen 5 rfl
  go_wp2_with fail
  have hlt5 := (unhide HO5).2.lt _ rfl
  replace hlt5 := hlt5.2
  have hgz5 := (unhide HY).lt
  (try clear x0 x1 x2 x3 x4 x5 z0 z0f z1 z1f z2 z2f z3 z3f z4 z4f z5 z5f y0 y0f y1 y1f y2 y2f y3 y3f y4 y4f y5 y5f)
  replace HX := hide ((unhide HX).oth (g' := w.heap.size + 1 + 1) (i := 5) (.slice (some ⟨w4.heap.size, 0, none⟩) sa.length sa.length) (by omega))
  replace HZ := hide ((unhide HZ).oth (g' := w.heap.size + 1 + 1) (i := 5) (.slice (some ⟨w4.heap.size, 0, none⟩) sa.length sa.length) (by omega))
  replace HY := hide (box_put (unhide HY) 5 (.slice (some ⟨w4.heap.size, 0, none⟩) sa.length sa.length) (by simp))
  replace HO0 := hide ((unhide HO0).kg (grown_cel _ (w.heap.size + 1 + 1) 5 (.slice (some ⟨w4.heap.size, 0, none⟩) sa.length sa.length)) (by omega))
  replace HO1 := hide ((unhide HO1).kg (grown_cel _ (w.heap.size + 1 + 1) 5 (.slice (some ⟨w4.heap.size, 0, none⟩) sa.length sa.length)) (by omega))
  replace HO2 := hide ((unhide HO2).kg (grown_cel _ (w.heap.size + 1 + 1) 5 (.slice (some ⟨w4.heap.size, 0, none⟩) sa.length sa.length)) (by omega))
  replace HO4 := hide ((unhide HO4).kg (grown_cel _ (w.heap.size + 1 + 1) 5 (.slice (some ⟨w4.heap.size, 0, none⟩) sa.length sa.length)) (by omega))
  replace HO5 := hide ((unhide HO5).kg (grown_cel _ (w.heap.size + 1 + 1) 5 (.slice (some ⟨w4.heap.size, 0, none⟩) sa.length sa.length)) (by omega))
  replace HB := hide (below_sc (p := ⟨w.heap.size + 1 + 1, 5, none⟩) (v := .slice (some ⟨w4.heap.size, 0, none⟩) sa.length sa.length) (unhide HB) (by dsimp only; omega))
  replace HY := hide (show Box _ (w.heap.size + 1 + 1) [.slice (some ⟨w.heap.size + 1 + 1 + 1, 0, none⟩) es.length es.length, .slice (some ⟨w1.heap.size, 0, none⟩) pu.length pu.length, .slice (some ⟨w2.heap.size, 0, none⟩) ds.length ds.length, .int .i64 cl, .slice (some ⟨w3.heap.size, 0, none⟩) nu.length nu.length, .slice (some ⟨w4.heap.size, 0, none⟩) sa.length sa.length] from unhide HY)
  have x0 := (unhide HX).cell 0 rfl
  have x1 := (unhide HX).cell 1 rfl
  have x2 := (unhide HX).cell 2 rfl
  have x3 := (unhide HX).cell 3 rfl
  have x4 := (unhide HX).cell 4 rfl
  have x5 := (unhide HX).cell 5 rfl
  have z0 := (unhide HZ).cell 0 rfl
  have z0f := (unhide HZ).frozen 0 rfl
  have z1 := (unhide HZ).cell 1 rfl
  have z1f := (unhide HZ).frozen 1 rfl
  have z2 := (unhide HZ).cell 2 rfl
  have z2f := (unhide HZ).frozen 2 rfl
  have z3 := (unhide HZ).cell 3 rfl
  have z3f := (unhide HZ).frozen 3 rfl
  have z4 := (unhide HZ).cell 4 rfl
  have z4f := (unhide HZ).frozen 4 rfl
  have z5 := (unhide HZ).cell 5 rfl
  have z5f := (unhide HZ).frozen 5 rfl
  have y0 := (unhide HY).cell 0 rfl
  have y0f := (unhide HY).frozen 0 rfl
  have y1 := (unhide HY).cell 1 rfl
  have y1f := (unhide HY).frozen 1 rfl
  have y2 := (unhide HY).cell 2 rfl
  have y2f := (unhide HY).frozen 2 rfl
  have y3 := (unhide HY).cell 3 rfl
  have y3f := (unhide HY).frozen 3 rfl
  have y4 := (unhide HY).cell 4 rfl
  have y4f := (unhide HY).frozen 4 rfl
  have y5 := (unhide HY).cell 5 rfl
  have y5f := (unhide HY).frozen 5 rfl
  clear hgz5
  have hgz := (unhide HY).lt
  simp only [World.size_setCell] at hgz
  (try clear x0 x1 x2 x3 x4 x5 z0 z0f z1 z1f z2 z2f z3 z3f z4 z4f z5 z5f y0 y0f y1 y1f y2 y2f y3 y3f y4 y4f y5 y5f)
  replace HX := hide ((unhide HX).oth (g' := w.heap.size + 1) (i := 0) (.slice (some ⟨w.heap.size + 1 + 1 + 1, 0, none⟩) es.length es.length) (by omega))
  replace HZ := hide (box_put (unhide HZ) 0 (.slice (some ⟨w.heap.size + 1 + 1 + 1, 0, none⟩) es.length es.length) (by simp))
  replace HY := hide ((unhide HY).oth (g' := w.heap.size + 1) (i := 0) (.slice (some ⟨w.heap.size + 1 + 1 + 1, 0, none⟩) es.length es.length) (by omega))
  replace HO0 := hide ((unhide HO0).kg (grown_cel _ (w.heap.size + 1) 0 (.slice (some ⟨w.heap.size + 1 + 1 + 1, 0, none⟩) es.length es.length)) (by omega))
  replace HO1 := hide ((unhide HO1).kg (grown_cel _ (w.heap.size + 1) 0 (.slice (some ⟨w.heap.size + 1 + 1 + 1, 0, none⟩) es.length es.length)) (by omega))
  replace HO2 := hide ((unhide HO2).kg (grown_cel _ (w.heap.size + 1) 0 (.slice (some ⟨w.heap.size + 1 + 1 + 1, 0, none⟩) es.length es.length)) (by omega))
  replace HO4 := hide ((unhide HO4).kg (grown_cel _ (w.heap.size + 1) 0 (.slice (some ⟨w.heap.size + 1 + 1 + 1, 0, none⟩) es.length es.length)) (by omega))
  replace HO5 := hide ((unhide HO5).kg (grown_cel _ (w.heap.size + 1) 0 (.slice (some ⟨w.heap.size + 1 + 1 + 1, 0, none⟩) es.length es.length)) (by omega))
  replace HB := hide (below_sc (p := ⟨w.heap.size + 1, 0, none⟩) (v := .slice (some ⟨w.heap.size + 1 + 1 + 1, 0, none⟩) es.length es.length) (unhide HB) (by dsimp only; omega))
  replace HX := hide ((unhide HX).oth (g' := w.heap.size + 1) (i := 1) (.slice (some ⟨w1.heap.size, 0, none⟩) pu.length pu.length) (by omega))
  replace HZ := hide (box_put (unhide HZ) 1 (.slice (some ⟨w1.heap.size, 0, none⟩) pu.length pu.length) (by simp))
  replace HY := hide ((unhide HY).oth (g' := w.heap.size + 1) (i := 1) (.slice (some ⟨w1.heap.size, 0, none⟩) pu.length pu.length) (by omega))
  replace HO0 := hide ((unhide HO0).kg (grown_cel _ (w.heap.size + 1) 1 (.slice (some ⟨w1.heap.size, 0, none⟩) pu.length pu.length)) (by omega))
  replace HO1 := hide ((unhide HO1).kg (grown_cel _ (w.heap.size + 1) 1 (.slice (some ⟨w1.heap.size, 0, none⟩) pu.length pu.length)) (by omega))
  replace HO2 := hide ((unhide HO2).kg (grown_cel _ (w.heap.size + 1) 1 (.slice (some ⟨w1.heap.size, 0, none⟩) pu.length pu.length)) (by omega))
  replace HO4 := hide ((unhide HO4).kg (grown_cel _ (w.heap.size + 1) 1 (.slice (some ⟨w1.heap.size, 0, none⟩) pu.length pu.length)) (by omega))
  replace HO5 := hide ((unhide HO5).kg (grown_cel _ (w.heap.size + 1) 1 (.slice (some ⟨w1.heap.size, 0, none⟩) pu.length pu.length)) (by omega))
  replace HB := hide (below_sc (p := ⟨w.heap.size + 1, 1, none⟩) (v := .slice (some ⟨w1.heap.size, 0, none⟩) pu.length pu.length) (unhide HB) (by dsimp only; omega))
  replace HX := hide ((unhide HX).oth (g' := w.heap.size + 1) (i := 2) (.slice (some ⟨w2.heap.size, 0, none⟩) ds.length ds.length) (by omega))
  replace HZ := hide (box_put (unhide HZ) 2 (.slice (some ⟨w2.heap.size, 0, none⟩) ds.length ds.length) (by simp))
  replace HY := hide ((unhide HY).oth (g' := w.heap.size + 1) (i := 2) (.slice (some ⟨w2.heap.size, 0, none⟩) ds.length ds.length) (by omega))
  replace HO0 := hide ((unhide HO0).kg (grown_cel _ (w.heap.size + 1) 2 (.slice (some ⟨w2.heap.size, 0, none⟩) ds.length ds.length)) (by omega))
  replace HO1 := hide ((unhide HO1).kg (grown_cel _ (w.heap.size + 1) 2 (.slice (some ⟨w2.heap.size, 0, none⟩) ds.length ds.length)) (by omega))
  replace HO2 := hide ((unhide HO2).kg (grown_cel _ (w.heap.size + 1) 2 (.slice (some ⟨w2.heap.size, 0, none⟩) ds.length ds.length)) (by omega))
  replace HO4 := hide ((unhide HO4).kg (grown_cel _ (w.heap.size + 1) 2 (.slice (some ⟨w2.heap.size, 0, none⟩) ds.length ds.length)) (by omega))
  replace HO5 := hide ((unhide HO5).kg (grown_cel _ (w.heap.size + 1) 2 (.slice (some ⟨w2.heap.size, 0, none⟩) ds.length ds.length)) (by omega))
  replace HB := hide (below_sc (p := ⟨w.heap.size + 1, 2, none⟩) (v := .slice (some ⟨w2.heap.size, 0, none⟩) ds.length ds.length) (unhide HB) (by dsimp only; omega))
  replace HX := hide ((unhide HX).oth (g' := w.heap.size + 1) (i := 3) (.int .i64 cl) (by omega))
  replace HZ := hide (box_put (unhide HZ) 3 (.int .i64 cl) (by simp))
  replace HY := hide ((unhide HY).oth (g' := w.heap.size + 1) (i := 3) (.int .i64 cl) (by omega))
  replace HO0 := hide ((unhide HO0).kg (grown_cel _ (w.heap.size + 1) 3 (.int .i64 cl)) (by omega))
  replace HO1 := hide ((unhide HO1).kg (grown_cel _ (w.heap.size + 1) 3 (.int .i64 cl)) (by omega))
  replace HO2 := hide ((unhide HO2).kg (grown_cel _ (w.heap.size + 1) 3 (.int .i64 cl)) (by omega))
  replace HO4 := hide ((unhide HO4).kg (grown_cel _ (w.heap.size + 1) 3 (.int .i64 cl)) (by omega))
  replace HO5 := hide ((unhide HO5).kg (grown_cel _ (w.heap.size + 1) 3 (.int .i64 cl)) (by omega))
  replace HB := hide (below_sc (p := ⟨w.heap.size + 1, 3, none⟩) (v := .int .i64 cl) (unhide HB) (by dsimp only; omega))
  replace HX := hide ((unhide HX).oth (g' := w.heap.size + 1) (i := 4) (.slice (some ⟨w3.heap.size, 0, none⟩) nu.length nu.length) (by omega))
  replace HZ := hide (box_put (unhide HZ) 4 (.slice (some ⟨w3.heap.size, 0, none⟩) nu.length nu.length) (by simp))
  replace HY := hide ((unhide HY).oth (g' := w.heap.size + 1) (i := 4) (.slice (some ⟨w3.heap.size, 0, none⟩) nu.length nu.length) (by omega))
  replace HO0 := hide ((unhide HO0).kg (grown_cel _ (w.heap.size + 1) 4 (.slice (some ⟨w3.heap.size, 0, none⟩) nu.length nu.length)) (by omega))
  replace HO1 := hide ((unhide HO1).kg (grown_cel _ (w.heap.size + 1) 4 (.slice (some ⟨w3.heap.size, 0, none⟩) nu.length nu.length)) (by omega))
  replace HO2 := hide ((unhide HO2).kg (grown_cel _ (w.heap.size + 1) 4 (.slice (some ⟨w3.heap.size, 0, none⟩) nu.length nu.length)) (by omega))
  replace HO4 := hide ((unhide HO4).kg (grown_cel _ (w.heap.size + 1) 4 (.slice (some ⟨w3.heap.size, 0, none⟩) nu.length nu.length)) (by omega))
  replace HO5 := hide ((unhide HO5).kg (grown_cel _ (w.heap.size + 1) 4 (.slice (some ⟨w3.heap.size, 0, none⟩) nu.length nu.length)) (by omega))
  replace HB := hide (below_sc (p := ⟨w.heap.size + 1, 4, none⟩) (v := .slice (some ⟨w3.heap.size, 0, none⟩) nu.length nu.length) (unhide HB) (by dsimp only; omega))
  replace HX := hide ((unhide HX).oth (g' := w.heap.size + 1) (i := 5) (.slice (some ⟨w4.heap.size, 0, none⟩) sa.length sa.length) (by omega))
  replace HZ := hide (box_put (unhide HZ) 5 (.slice (some ⟨w4.heap.size, 0, none⟩) sa.length sa.length) (by simp))
  replace HY := hide ((unhide HY).oth (g' := w.heap.size + 1) (i := 5) (.slice (some ⟨w4.heap.size, 0, none⟩) sa.length sa.length) (by omega))
  replace HO0 := hide ((unhide HO0).kg (grown_cel _ (w.heap.size + 1) 5 (.slice (some ⟨w4.heap.size, 0, none⟩) sa.length sa.length)) (by omega))
  replace HO1 := hide ((unhide HO1).kg (grown_cel _ (w.heap.size + 1) 5 (.slice (some ⟨w4.heap.size, 0, none⟩) sa.length sa.length)) (by omega))
  replace HO2 := hide ((unhide HO2).kg (grown_cel _ (w.heap.size + 1) 5 (.slice (some ⟨w4.heap.size, 0, none⟩) sa.length sa.length)) (by omega))
  replace HO4 := hide ((unhide HO4).kg (grown_cel _ (w.heap.size + 1) 5 (.slice (some ⟨w4.heap.size, 0, none⟩) sa.length sa.length)) (by omega))
  replace HO5 := hide ((unhide HO5).kg (grown_cel _ (w.heap.size + 1) 5 (.slice (some ⟨w4.heap.size, 0, none⟩) sa.length sa.length)) (by omega))
  replace HB := hide (below_sc (p := ⟨w.heap.size + 1, 5, none⟩) (v := .slice (some ⟨w4.heap.size, 0, none⟩) sa.length sa.length) (unhide HB) (by dsimp only; omega))
  replace HZ := hide (show Box _ (w.heap.size + 1) [.slice (some ⟨w.heap.size + 1 + 1 + 1, 0, none⟩) es.length es.length, .slice (some ⟨w1.heap.size, 0, none⟩) pu.length pu.length, .slice (some ⟨w2.heap.size, 0, none⟩) ds.length ds.length, .int .i64 cl, .slice (some ⟨w3.heap.size, 0, none⟩) nu.length nu.length, .slice (some ⟨w4.heap.size, 0, none⟩) sa.length sa.length] from unhide HZ)
  have x0 := (unhide HX).cell 0 rfl
  have x1 := (unhide HX).cell 1 rfl
  have x2 := (unhide HX).cell 2 rfl
  have x3 := (unhide HX).cell 3 rfl
  have x4 := (unhide HX).cell 4 rfl
  have x5 := (unhide HX).cell 5 rfl
  have z0 := (unhide HZ).cell 0 rfl
  have z0f := (unhide HZ).frozen 0 rfl
  have z1 := (unhide HZ).cell 1 rfl
  have z1f := (unhide HZ).frozen 1 rfl
  have z2 := (unhide HZ).cell 2 rfl
  have z2f := (unhide HZ).frozen 2 rfl
  have z3 := (unhide HZ).cell 3 rfl
  have z3f := (unhide HZ).frozen 3 rfl
  have z4 := (unhide HZ).cell 4 rfl
  have z4f := (unhide HZ).frozen 4 rfl
  have z5 := (unhide HZ).cell 5 rfl
  have z5f := (unhide HZ).frozen 5 rfl
  have y0 := (unhide HY).cell 0 rfl
  have y0f := (unhide HY).frozen 0 rfl
  have y1 := (unhide HY).cell 1 rfl
  have y1f := (unhide HY).frozen 1 rfl
  have y2 := (unhide HY).cell 2 rfl
  have y2f := (unhide HY).frozen 2 rfl
  have y3 := (unhide HY).cell 3 rfl
  have y3f := (unhide HY).frozen 3 rfl
  have y4 := (unhide HY).cell 4 rfl
  have y4f := (unhide HY).frozen 4 rfl
  have y5 := (unhide HY).cell 5 rfl
  have y5f := (unhide HY).frozen 5 rfl
  exact bodyPost_ret (v := hV ⟨some ⟨w.heap.size + 1 + 1 + 1, 0, none⟩, es.length, some ⟨w1.heap.size, 0, none⟩, pu.length, some ⟨w2.heap.size, 0, none⟩, ds.length, some ⟨w3.heap.size, 0, none⟩, nu.length, some ⟨w4.heap.size, 0, none⟩, sa.length⟩ ⟨es, pu, ds, cl, nu, sa⟩) (results_c Try.results83 rfl (load_house (unhide HZ))) rfl ⟨⟨some ⟨w.heap.size + 1 + 1 + 1, 0, none⟩, es.length, some ⟨w1.heap.size, 0, none⟩, pu.length, some ⟨w2.heap.size, 0, none⟩, ds.length, some ⟨w3.heap.size, 0, none⟩, nu.length, some ⟨w4.heap.size, 0, none⟩, sa.length⟩, rfl, ⟨(unhide HO0).monoH (by omega), (unhide HO1).mono (by omega), (unhide HO2).monoH (by omega), (unhide HO4).mono (by omega), (unhide HO5).mono (by omega), apt_ne (by omega), apt_ne (by omega), apt_ne (by omega), apt_ne (by omega), apt_ne (by omega), apt_ne (by omega), apt_ne (by omega), apt_ne (by omega), apt_ne (by omega), apt_ne (by omega)⟩, unhide HB⟩
end Go.Proofs.Ytmlbphmbffkdnaa
