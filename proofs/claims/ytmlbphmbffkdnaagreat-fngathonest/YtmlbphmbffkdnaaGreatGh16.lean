/-
  Texts of the proof, what it needs of them: Dre.
-/
import Derived.Test.YtmlbphmbffkdnaaGreatGh11
import Derived.Test.YtmlbphmbffkdnaaGreatGh15
namespace Go.Proofs.YtmlbphmbffkdnaaGreat
open Go.RowKit
set_option linter.unusedVariables false
set_option maxRecDepth 100000

theorem box_put {w : World} {g : Nat} {vs : List Value} (h : Box w g vs) (i : Nat) (v : Value) (hi : i < vs.length) : Box (w.setCell ⟨g, i, none⟩ v) g (vs.set i v) := by
  intro j u hu
  by_cases e : j = i
  · subst e
    rw [List.getElem?_set_self hi] at hu
    cases hu
    have hx : vs[j]? = some vs[j] := List.getElem?_eq_getElem hi
    refine ⟨World.cell?_setCell_same _ _ _ (h j _ hx).1, ?_⟩
    rw [World.frozen?_setCell]
    exact (h j _ hx).2
  · rw [List.getElem?_set_ne (Ne.symm e)] at hu
    refine ⟨?_, ?_⟩
    · rw [World.cell?_setCell_other _ _ _ _ (by intro e2; cases e2; exact e rfl)]
      exact (h j u hu).1
    · rw [World.frozen?_setCell]
      exact (h j u hu).2
theorem grown_cel (w : World) (g i : Nat) (v : Value) : w.grownBy (w.setCell ⟨g, i, none⟩ v) (some g) := by
  refine ⟨rfl, rfl, rfl, by simp, fun k hk hne => ?_⟩
  have hgk : g ≠ k := fun e => hne (by rw [e])
  show (w.heap.modify g _)[k]? = _
  rw [Array.getElem?_modify, if_neg hgk]
/-- four cells written one behind the other -/
theorem grown_four (w : World) (g : Nat) (a b c d : Value) : w.grownBy ((((w.setCell ⟨g, 0, none⟩ a).setCell ⟨g, 1, none⟩ b).setCell ⟨g, 2, none⟩ c).setCell ⟨g, 3, none⟩ d) (some g) :=
  grown_trans (grown_trans (grown_trans (grown_cel _ _ _ _) (grown_cel _ _ _ _)) (grown_cel _ _ _ _)) (grown_cel _ _ _ _)
/-- what a draw of an entry leaves -/
def EntD (w : World) (r k : Nat) (e : Ending) (w' : World) : Prop :=
  ∃ a t u p : Int, e = .returned (entV a t u p) ∧ FitsE a t u p ∧ Rd w' r k ∧ w.grownBy w' (some r)
/-- while an entry is drawn: the reader, the answer's block, the entry's block -/
def EntS (w W : World) (r k g1 : Nat) (a t u p : Int) : Prop :=
  Rd W r k ∧ w.grownBy W (some r) ∧ Box W w.heap.size [.int .i64 0, .int .i64 0, .int .i64 0, .int .i64 0] ∧ Box W g1 [.int .i64 a, .int .i64 t, .int .i64 u, .int .i64 p] ∧ w.heap.size < g1 ∧ FitsE a t u p
theorem EntS.step {w W W' : World} {r k k' g1 : Nat} {a t u p : Int} (h : EntS w W r k g1 a t u p) (hr : Rd W' r k') (hg : W.grownBy W' (some r)) (hrl : r < w.heap.size) : EntS w W' r k' g1 a t u p :=
  ⟨hr, grown_trans h.2.1 hg, h.2.2.1.kpt hg (fun e => by simp only [Option.some.injEq] at e; omega), h.2.2.2.1.kpt hg (fun e => by have := h.2.2.2.2.1; simp only [Option.some.injEq] at e; omega), h.2.2.2.2.1, h.2.2.2.2.2⟩
theorem EntS.put {w W : World} {r k g1 : Nat} {a t u p a' t' u' p' : Int} (h : EntS w W r k g1 a t u p) (i : Nat) (v : Value) (hi : i < 4) (hrl : r < w.heap.size) (he : [Value.int .i64 a, .int .i64 t, .int .i64 u, .int .i64 p].set i v = [.int .i64 a', .int .i64 t', .int .i64 u', .int .i64 p']) (hf : FitsE a' t' u' p') : EntS w (W.setCell ⟨g1, i, none⟩ v) r k g1 a' t' u' p' := by
  obtain ⟨h1, h2, h3, h4, h5, h6⟩ := h
  have hg := grown_cel W g1 i v
  refine ⟨h1.kept hg (fun b hb => by cases hb; omega), grown_new h2 hg (Nat.le_of_lt h5), h3.kpt hg (fun e => by simp only [Option.some.injEq] at e; omega), ?_, h5, hf⟩
  rw [← he]
  exact box_put h4 i v (by simpa using hi)
theorem EntS.fin {w W : World} {r k k' g1 : Nat} {a t u p : Int} (h : EntS w W r k g1 a t u p) (hrl : r < w.heap.size) (hk : k ≤ k') :
    EntD w r k' (.returned (entV a t u p)) ((((W.setCell ⟨w.heap.size, 0, none⟩ (.int .i64 a)).setCell ⟨w.heap.size, 1, none⟩ (.int .i64 t)).setCell ⟨w.heap.size, 2, none⟩ (.int .i64 u)).setCell ⟨w.heap.size, 3, none⟩ (.int .i64 p)) := by
  obtain ⟨h1, h2, h3, h4, h5, h6⟩ := h
  have hg := grown_four W w.heap.size (.int .i64 a) (.int .i64 t) (.int .i64 u) (.int .i64 p)
  exact ⟨a, t, u, p, rfl, h6, (h1.kept hg (fun b hb => by cases hb; omega)).mono hk, grown_new h2 hg (Nat.le_refl _)⟩

set_option maxHeartbeats 8000000 in
theorem c69 (r k : Nat) (n : Int) (w : World) (hk : k ≤ 1000000) (hn : 1 ≤ n ∧ n ≤ 1000000) (h : Rd w r k) :
    Calls Tryz.prog 69 #[.pointer (some ⟨r, 0, none⟩), .int .i64 n] w (EntD w r (k + 7)) := by
  have hrl := h.lt
  have HN := hide hn
  have HX0 := hide (box_new w [.int .i64 0, .int .i64 0, .int .i64 0, .int .i64 0] 80 (by simp [Value.oneCell']))
  have HR0 := hide (h.alloc (.cells #[.int .i64 0, .int .i64 0, .int .i64 0, .int .i64 0] 80))
  have HG0 := hide (World.grownBy_alloc w (.cells #[.int .i64 0, .int .i64 0, .int .i64 0, .int .i64 0] 80) (some r))
  have hs0 : w.heap.size < (w.alloc (.cells #[.int .i64 0, .int .i64 0, .int .i64 0, .int .i64 0] 80)).heap.size := by simp
  have HS0 := hide hs0
  clear h hn hs0
  go_enter Tryz.func69, Tryz.ntmps69
  go_wp2_with fail
  refine (c26 r k 3 _ (by omega) (unhide HR0)).mono ?_
  rintro e w1 ⟨x, rfl, hx0, hx1, hr, hg⟩
  have hx1 := hx1 (by omega)
  have HX1 := hide ((unhide HX0).kpt hg (fun e => by simp only [Option.some.injEq] at e; omega))
  have HR1 := hide hr
  have HG1 := hide (grown_trans (unhide HG0) hg)
  have HS1 := hide (Nat.lt_of_lt_of_le (unhide HS0) hg.size)
  clear hr hg HX0 HR0 HG0 HS0
  go_wp2_with fail
  refine (c26 r (k + 1) 8 _ (by omega) (unhide HR1)).mono ?_
  rintro e w2 ⟨y, rfl, hy0, hy1, hr, hg⟩
  have hy1 := hy1 (by omega)
  have HX2 := hide ((unhide HX1).kpt hg (fun e => by simp only [Option.some.injEq] at e; omega))
  have HR2 := hide hr
  have HG2 := hide (grown_trans (unhide HG1) hg)
  have HS2 := hide (Nat.lt_of_lt_of_le (unhide HS1) hg.size)
  clear hr hg HX1 HR1 HG1 HS1
  go_wp2_with fail
  refine (c26 r (k + 1 + 1) 5 _ (by omega) (unhide HR2)).mono ?_
  rintro e w3 ⟨v, rfl, hv0, hv1, hr, hg⟩
  have hv1 := hv1 (by omega)
  have hs3 := Nat.lt_of_lt_of_le (unhide HS2) hg.size
  have HS : Hid (EntS w (w3.alloc (.cells #[.int .i64 (1 + x), .int .i64 y, .int .i64 (1 + v), .int .i64 0] 80)) r (k + 1 + 1 + 1) w3.heap.size (1 + x) y (1 + v) 0) :=
    ⟨hr.alloc _, grown_trans (grown_trans (unhide HG2) hg) (World.grownBy_alloc _ _ _), ((unhide HX2).kpt hg (fun e => by simp only [Option.some.injEq] at e; omega)).alloc _, box_new w3 [.int .i64 (1 + x), .int .i64 y, .int .i64 (1 + v), .int .i64 0] 80 (by simp [Value.oneCell']), hs3, by unfold FitsE; omega⟩
  clear hr hg HX2 HR2 HG2 HS2 hs3
  by_cases hk3 : x = 2
  · subst hk3
    have e3 : ((1 : Int) + 2 != 3) = false := by decide
    have e4 : ((3 : Int) != 3) = false := by decide
    have hb1 := (unhide HS).2.2.2.1
    have y0 := hb1.cell 0 rfl
    have y1 := hb1.cell 1 rfl
    have y2 := hb1.cell 2 rfl
    have y3 := hb1.cell 3 rfl
    have z0 := hb1.frozen 0 rfl
    have z1 := hb1.frozen 1 rfl
    have z2 := hb1.frozen 2 rfl
    have z3 := hb1.frozen 3 rfl
    have hb0 := (unhide HS).2.2.1
    have c0 := hb0.cell 0 rfl
    have c1 := hb0.cell 1 rfl
    have c2 := hb0.cell 2 rfl
    have c3 := hb0.cell 3 rfl
    have f0 := hb0.frozen 0 rfl
    have f1 := hb0.frozen 1 rfl
    have f2 := hb0.frozen 2 rfl
    have f3 := hb0.frozen 3 rfl
    have hgg := (unhide HS).2.2.2.2.1
    clear hb0 hb1
    go_wp2_with fail
    refine (c27 r (k + 1 + 1 + 1) n _ (by omega) (unhide HN) (unhide HS).1).mono ?_
    rintro e W10 ⟨bo, rfl, hr, hg⟩
    have HS10 := hide ((unhide HS).step hr hg hrl)
    clear y0 y1 y2 y3 z0 z1 z2 z3 c0 c1 c2 c3 f0 f1 f2 f3 hgg
    clear hr hg HS
    have hb1 := (unhide HS10).2.2.2.1
    have y0 := hb1.cell 0 rfl
    have y1 := hb1.cell 1 rfl
    have y2 := hb1.cell 2 rfl
    have y3 := hb1.cell 3 rfl
    have z0 := hb1.frozen 0 rfl
    have z1 := hb1.frozen 1 rfl
    have z2 := hb1.frozen 2 rfl
    have z3 := hb1.frozen 3 rfl
    have hb0 := (unhide HS10).2.2.1
    have c0 := hb0.cell 0 rfl
    have c1 := hb0.cell 1 rfl
    have c2 := hb0.cell 2 rfl
    have c3 := hb0.cell 3 rfl
    have f0 := hb0.frozen 0 rfl
    have f1 := hb0.frozen 1 rfl
    have f2 := hb0.frozen 2 rfl
    have f3 := hb0.frozen 3 rfl
    have hgg := (unhide HS10).2.2.2.2.1
    clear hb0 hb1
    cases bo
    · go_wp2_with fail
      exact bodyPost_ret (v := entV (1 + 2) y (1 + v) 0) (by simp [results, Tryz.results69, go_sem, c0, c1, c2, c3]) rfl ((unhide HS10).fin hrl (by omega))
    go_wp2_with fail
    refine (c26 r (k + 1 + 1 + 1 + 1) 4 _ (by omega) (unhide HS10).1).mono ?_
    rintro e W11 ⟨q, rfl, hq, hq2, hr, hg⟩
    have HS11 := hide ((unhide HS10).step hr hg hrl)
    clear y0 y1 y2 y3 z0 z1 z2 z3 c0 c1 c2 c3 f0 f1 f2 f3 hgg
    clear hr hg hq2 HS10
    by_cases h0 : q = 0
    · subst h0
      have hb1 := (unhide HS11).2.2.2.1
      have y0 := hb1.cell 0 rfl
      have y1 := hb1.cell 1 rfl
      have y2 := hb1.cell 2 rfl
      have y3 := hb1.cell 3 rfl
      have z0 := hb1.frozen 0 rfl
      have z1 := hb1.frozen 1 rfl
      have z2 := hb1.frozen 2 rfl
      have z3 := hb1.frozen 3 rfl
      have hb0 := (unhide HS11).2.2.1
      have c0 := hb0.cell 0 rfl
      have c1 := hb0.cell 1 rfl
      have c2 := hb0.cell 2 rfl
      have c3 := hb0.cell 3 rfl
      have f0 := hb0.frozen 0 rfl
      have f1 := hb0.frozen 1 rfl
      have f2 := hb0.frozen 2 rfl
      have f3 := hb0.frozen 3 rfl
      have hgg := (unhide HS11).2.2.2.2.1
      clear hb0 hb1
      go_wp2_with fail
      clear y0 y1 y2 y3 z0 z1 z2 z3 c0 c1 c2 c3 f0 f1 f2 f3 hgg
      refine (pick_lit r (k + 1 + 1 + 1 + 1 + 1) 3 _ _ (by omega) (by omega) (unhide HS11).1).mono ?_
      rintro e W12 ⟨z, rfl, hz, hz2', hr, hg, hl⟩
      obtain ⟨zN, yy12, rfl, hzN, hy, hcy⟩ := lit_val (l := [0, 4, -1]) hl hz (by simpa using hz2')
      (try simp only [World.size_alloc] at hcy)
      have hyf : -9223372036854775808 ≤ yy12 ∧ yy12 ≤ 9223372036854775807 := by simp at hy; omega
      have HQ := hide ((unhide HS11).step hr hg hrl)
      clear hr hg hl hy HS11
      have hb1 := (unhide HQ).2.2.2.1
      have y0 := hb1.cell 0 rfl
      have y1 := hb1.cell 1 rfl
      have y2 := hb1.cell 2 rfl
      have y3 := hb1.cell 3 rfl
      have z0 := hb1.frozen 0 rfl
      have z1 := hb1.frozen 1 rfl
      have z2 := hb1.frozen 2 rfl
      have z3 := hb1.frozen 3 rfl
      have hb0 := (unhide HQ).2.2.1
      have c0 := hb0.cell 0 rfl
      have c1 := hb0.cell 1 rfl
      have c2 := hb0.cell 2 rfl
      have c3 := hb0.cell 3 rfl
      have f0 := hb0.frozen 0 rfl
      have f1 := hb0.frozen 1 rfl
      have f2 := hb0.frozen 2 rfl
      have f3 := hb0.frozen 3 rfl
      have hgg := (unhide HQ).2.2.2.2.1
      clear hb0 hb1
      have HS12 := hide ((unhide HQ).put 0 (.int .i64 yy12) (by omega) hrl (a' := yy12) (t' := y) (u' := 1 + v) (p' := 0) rfl (by have := (unhide HQ).2.2.2.2.2; unfold FitsE at this ⊢; omega))
      go_wp2_with fail
      clear y0 y1 y2 y3 z0 z1 z2 z3 c0 c1 c2 c3 f0 f1 f2 f3 hgg
      clear HQ hcy hyf
      have hb1 := (unhide HS12).2.2.2.1
      have y0 := hb1.cell 0 rfl
      have y1 := hb1.cell 1 rfl
      have y2 := hb1.cell 2 rfl
      have y3 := hb1.cell 3 rfl
      have z0 := hb1.frozen 0 rfl
      have z1 := hb1.frozen 1 rfl
      have z2 := hb1.frozen 2 rfl
      have z3 := hb1.frozen 3 rfl
      have hb0 := (unhide HS12).2.2.1
      have c0 := hb0.cell 0 rfl
      have c1 := hb0.cell 1 rfl
      have c2 := hb0.cell 2 rfl
      have c3 := hb0.cell 3 rfl
      have f0 := hb0.frozen 0 rfl
      have f1 := hb0.frozen 1 rfl
      have f2 := hb0.frozen 2 rfl
      have f3 := hb0.frozen 3 rfl
      have hgg := (unhide HS12).2.2.2.2.1
      clear hb0 hb1
      exact bodyPost_ret (v := entV yy12 y (1 + v) 0) (by simp [results, Tryz.results69, go_sem, c0, c1, c2, c3]) rfl ((unhide HS12).fin hrl (by omega))
    have q0 : (q == 0) = false := by simpa using h0
    by_cases h1 : q = 1
    · subst h1
      have hb1 := (unhide HS11).2.2.2.1
      have y0 := hb1.cell 0 rfl
      have y1 := hb1.cell 1 rfl
      have y2 := hb1.cell 2 rfl
      have y3 := hb1.cell 3 rfl
      have z0 := hb1.frozen 0 rfl
      have z1 := hb1.frozen 1 rfl
      have z2 := hb1.frozen 2 rfl
      have z3 := hb1.frozen 3 rfl
      have hb0 := (unhide HS11).2.2.1
      have c0 := hb0.cell 0 rfl
      have c1 := hb0.cell 1 rfl
      have c2 := hb0.cell 2 rfl
      have c3 := hb0.cell 3 rfl
      have f0 := hb0.frozen 0 rfl
      have f1 := hb0.frozen 1 rfl
      have f2 := hb0.frozen 2 rfl
      have f3 := hb0.frozen 3 rfl
      have hgg := (unhide HS11).2.2.2.2.1
      clear hb0 hb1
      go_wp2_with fail
      clear y0 y1 y2 y3 z0 z1 z2 z3 c0 c1 c2 c3 f0 f1 f2 f3 hgg
      refine (pick_lit r (k + 1 + 1 + 1 + 1 + 1) 2 _ _ (by omega) (by omega) (unhide HS11).1).mono ?_
      rintro e W13 ⟨z, rfl, hz, hz2', hr, hg, hl⟩
      obtain ⟨zN, yy13, rfl, hzN, hy, hcy⟩ := lit_val (l := [-1, 8]) hl hz (by simpa using hz2')
      (try simp only [World.size_alloc] at hcy)
      have hyf : -9223372036854775808 ≤ yy13 ∧ yy13 ≤ 9223372036854775807 := by simp at hy; omega
      have HQ := hide ((unhide HS11).step hr hg hrl)
      clear hr hg hl hy HS11
      have hb1 := (unhide HQ).2.2.2.1
      have y0 := hb1.cell 0 rfl
      have y1 := hb1.cell 1 rfl
      have y2 := hb1.cell 2 rfl
      have y3 := hb1.cell 3 rfl
      have z0 := hb1.frozen 0 rfl
      have z1 := hb1.frozen 1 rfl
      have z2 := hb1.frozen 2 rfl
      have z3 := hb1.frozen 3 rfl
      have hb0 := (unhide HQ).2.2.1
      have c0 := hb0.cell 0 rfl
      have c1 := hb0.cell 1 rfl
      have c2 := hb0.cell 2 rfl
      have c3 := hb0.cell 3 rfl
      have f0 := hb0.frozen 0 rfl
      have f1 := hb0.frozen 1 rfl
      have f2 := hb0.frozen 2 rfl
      have f3 := hb0.frozen 3 rfl
      have hgg := (unhide HQ).2.2.2.2.1
      clear hb0 hb1
      have HS13 := hide ((unhide HQ).put 1 (.int .i64 yy13) (by omega) hrl (a' := 1 + 2) (t' := yy13) (u' := 1 + v) (p' := 0) rfl (by have := (unhide HQ).2.2.2.2.2; unfold FitsE at this ⊢; omega))
      go_wp2_with fail
      clear y0 y1 y2 y3 z0 z1 z2 z3 c0 c1 c2 c3 f0 f1 f2 f3 hgg
      clear HQ hcy hyf
      have hb1 := (unhide HS13).2.2.2.1
      have y0 := hb1.cell 0 rfl
      have y1 := hb1.cell 1 rfl
      have y2 := hb1.cell 2 rfl
      have y3 := hb1.cell 3 rfl
      have z0 := hb1.frozen 0 rfl
      have z1 := hb1.frozen 1 rfl
      have z2 := hb1.frozen 2 rfl
      have z3 := hb1.frozen 3 rfl
      have hb0 := (unhide HS13).2.2.1
      have c0 := hb0.cell 0 rfl
      have c1 := hb0.cell 1 rfl
      have c2 := hb0.cell 2 rfl
      have c3 := hb0.cell 3 rfl
      have f0 := hb0.frozen 0 rfl
      have f1 := hb0.frozen 1 rfl
      have f2 := hb0.frozen 2 rfl
      have f3 := hb0.frozen 3 rfl
      have hgg := (unhide HS13).2.2.2.2.1
      clear hb0 hb1
      exact bodyPost_ret (v := entV (1 + 2) yy13 (1 + v) 0) (by simp [results, Tryz.results69, go_sem, c0, c1, c2, c3]) rfl ((unhide HS13).fin hrl (by omega))
    have q1 : (q == 1) = false := by simpa using h1
    by_cases h2 : q = 2
    · subst h2
      have hb1 := (unhide HS11).2.2.2.1
      have y0 := hb1.cell 0 rfl
      have y1 := hb1.cell 1 rfl
      have y2 := hb1.cell 2 rfl
      have y3 := hb1.cell 3 rfl
      have z0 := hb1.frozen 0 rfl
      have z1 := hb1.frozen 1 rfl
      have z2 := hb1.frozen 2 rfl
      have z3 := hb1.frozen 3 rfl
      have hb0 := (unhide HS11).2.2.1
      have c0 := hb0.cell 0 rfl
      have c1 := hb0.cell 1 rfl
      have c2 := hb0.cell 2 rfl
      have c3 := hb0.cell 3 rfl
      have f0 := hb0.frozen 0 rfl
      have f1 := hb0.frozen 1 rfl
      have f2 := hb0.frozen 2 rfl
      have f3 := hb0.frozen 3 rfl
      have hgg := (unhide HS11).2.2.2.2.1
      clear hb0 hb1
      go_wp2_with fail
      clear y0 y1 y2 y3 z0 z1 z2 z3 c0 c1 c2 c3 f0 f1 f2 f3 hgg
      refine (pick_lit r (k + 1 + 1 + 1 + 1 + 1) 2 _ _ (by omega) (by omega) (unhide HS11).1).mono ?_
      rintro e W14 ⟨z, rfl, hz, hz2', hr, hg, hl⟩
      obtain ⟨zN, yy14, rfl, hzN, hy, hcy⟩ := lit_val (l := [0, 6]) hl hz (by simpa using hz2')
      (try simp only [World.size_alloc] at hcy)
      have hyf : -9223372036854775808 ≤ yy14 ∧ yy14 ≤ 9223372036854775807 := by simp at hy; omega
      have HQ := hide ((unhide HS11).step hr hg hrl)
      clear hr hg hl hy HS11
      have hb1 := (unhide HQ).2.2.2.1
      have y0 := hb1.cell 0 rfl
      have y1 := hb1.cell 1 rfl
      have y2 := hb1.cell 2 rfl
      have y3 := hb1.cell 3 rfl
      have z0 := hb1.frozen 0 rfl
      have z1 := hb1.frozen 1 rfl
      have z2 := hb1.frozen 2 rfl
      have z3 := hb1.frozen 3 rfl
      have hb0 := (unhide HQ).2.2.1
      have c0 := hb0.cell 0 rfl
      have c1 := hb0.cell 1 rfl
      have c2 := hb0.cell 2 rfl
      have c3 := hb0.cell 3 rfl
      have f0 := hb0.frozen 0 rfl
      have f1 := hb0.frozen 1 rfl
      have f2 := hb0.frozen 2 rfl
      have f3 := hb0.frozen 3 rfl
      have hgg := (unhide HQ).2.2.2.2.1
      clear hb0 hb1
      have HS14 := hide ((unhide HQ).put 2 (.int .i64 yy14) (by omega) hrl (a' := 1 + 2) (t' := y) (u' := yy14) (p' := 0) rfl (by have := (unhide HQ).2.2.2.2.2; unfold FitsE at this ⊢; omega))
      go_wp2_with fail
      clear y0 y1 y2 y3 z0 z1 z2 z3 c0 c1 c2 c3 f0 f1 f2 f3 hgg
      clear HQ hcy hyf
      have hb1 := (unhide HS14).2.2.2.1
      have y0 := hb1.cell 0 rfl
      have y1 := hb1.cell 1 rfl
      have y2 := hb1.cell 2 rfl
      have y3 := hb1.cell 3 rfl
      have z0 := hb1.frozen 0 rfl
      have z1 := hb1.frozen 1 rfl
      have z2 := hb1.frozen 2 rfl
      have z3 := hb1.frozen 3 rfl
      have hb0 := (unhide HS14).2.2.1
      have c0 := hb0.cell 0 rfl
      have c1 := hb0.cell 1 rfl
      have c2 := hb0.cell 2 rfl
      have c3 := hb0.cell 3 rfl
      have f0 := hb0.frozen 0 rfl
      have f1 := hb0.frozen 1 rfl
      have f2 := hb0.frozen 2 rfl
      have f3 := hb0.frozen 3 rfl
      have hgg := (unhide HS14).2.2.2.2.1
      clear hb0 hb1
      exact bodyPost_ret (v := entV (1 + 2) y yy14 0) (by simp [results, Tryz.results69, go_sem, c0, c1, c2, c3]) rfl ((unhide HS14).fin hrl (by omega))
    have q2 : (q == 2) = false := by simpa using h2
    have hb1 := (unhide HS11).2.2.2.1
    have y0 := hb1.cell 0 rfl
    have y1 := hb1.cell 1 rfl
    have y2 := hb1.cell 2 rfl
    have y3 := hb1.cell 3 rfl
    have z0 := hb1.frozen 0 rfl
    have z1 := hb1.frozen 1 rfl
    have z2 := hb1.frozen 2 rfl
    have z3 := hb1.frozen 3 rfl
    have hb0 := (unhide HS11).2.2.1
    have c0 := hb0.cell 0 rfl
    have c1 := hb0.cell 1 rfl
    have c2 := hb0.cell 2 rfl
    have c3 := hb0.cell 3 rfl
    have f0 := hb0.frozen 0 rfl
    have f1 := hb0.frozen 1 rfl
    have f2 := hb0.frozen 2 rfl
    have f3 := hb0.frozen 3 rfl
    have hgg := (unhide HS11).2.2.2.2.1
    clear hb0 hb1
    have hcap : Tm.cap 50 = 60 := by decide
    go_wp2_with (go_at_call 67; refine (c67 _ _).mono ?_; rintro e w' ⟨rfl, rfl⟩)
    clear y0 y1 y2 y3 z0 z1 z2 z3 c0 c1 c2 c3 f0 f1 f2 f3 hgg
    refine (pick_lit r (k + 1 + 1 + 1 + 1 + 1) 5 _ _ (by omega) (by omega) (unhide HS11).1).mono ?_
    rintro e W15 ⟨z, rfl, hz, hz2', hr, hg, hl⟩
    obtain ⟨zN, yy15, rfl, hzN, hy, hcy⟩ := lit_val (l := [0, -1, 51, 60, 61]) hl hz (by simpa using hz2')
    (try simp only [World.size_alloc] at hcy)
    have hyf : -9223372036854775808 ≤ yy15 ∧ yy15 ≤ 9223372036854775807 := by simp at hy; omega
    have HQ := hide ((unhide HS11).step hr hg hrl)
    clear hr hg hl hy HS11
    have hb1 := (unhide HQ).2.2.2.1
    have y0 := hb1.cell 0 rfl
    have y1 := hb1.cell 1 rfl
    have y2 := hb1.cell 2 rfl
    have y3 := hb1.cell 3 rfl
    have z0 := hb1.frozen 0 rfl
    have z1 := hb1.frozen 1 rfl
    have z2 := hb1.frozen 2 rfl
    have z3 := hb1.frozen 3 rfl
    have hb0 := (unhide HQ).2.2.1
    have c0 := hb0.cell 0 rfl
    have c1 := hb0.cell 1 rfl
    have c2 := hb0.cell 2 rfl
    have c3 := hb0.cell 3 rfl
    have f0 := hb0.frozen 0 rfl
    have f1 := hb0.frozen 1 rfl
    have f2 := hb0.frozen 2 rfl
    have f3 := hb0.frozen 3 rfl
    have hgg := (unhide HQ).2.2.2.2.1
    clear hb0 hb1
    have HS15 := hide ((unhide HQ).put 3 (.int .i64 yy15) (by omega) hrl (a' := 1 + 2) (t' := y) (u' := 1 + v) (p' := yy15) rfl (by have := (unhide HQ).2.2.2.2.2; unfold FitsE at this ⊢; omega))
    go_wp2_with fail
    clear y0 y1 y2 y3 z0 z1 z2 z3 c0 c1 c2 c3 f0 f1 f2 f3 hgg
    clear HQ hcy hyf
    have hb1 := (unhide HS15).2.2.2.1
    have y0 := hb1.cell 0 rfl
    have y1 := hb1.cell 1 rfl
    have y2 := hb1.cell 2 rfl
    have y3 := hb1.cell 3 rfl
    have z0 := hb1.frozen 0 rfl
    have z1 := hb1.frozen 1 rfl
    have z2 := hb1.frozen 2 rfl
    have z3 := hb1.frozen 3 rfl
    have hb0 := (unhide HS15).2.2.1
    have c0 := hb0.cell 0 rfl
    have c1 := hb0.cell 1 rfl
    have c2 := hb0.cell 2 rfl
    have c3 := hb0.cell 3 rfl
    have f0 := hb0.frozen 0 rfl
    have f1 := hb0.frozen 1 rfl
    have f2 := hb0.frozen 2 rfl
    have f3 := hb0.frozen 3 rfl
    have hgg := (unhide HS15).2.2.2.2.1
    clear hb0 hb1
    exact bodyPost_ret (v := entV (1 + 2) y (1 + v) yy15) (by simp [results, Tryz.results69, go_sem, c0, c1, c2, c3]) rfl ((unhide HS15).fin hrl (by omega))
  · have e3 : (1 + x != 3) = true := by rw [bne_iff_ne]; omega
    have hb1 := (unhide HS).2.2.2.1
    have y0 := hb1.cell 0 rfl
    have y1 := hb1.cell 1 rfl
    have y2 := hb1.cell 2 rfl
    have y3 := hb1.cell 3 rfl
    have z0 := hb1.frozen 0 rfl
    have z1 := hb1.frozen 1 rfl
    have z2 := hb1.frozen 2 rfl
    have z3 := hb1.frozen 3 rfl
    have hb0 := (unhide HS).2.2.1
    have c0 := hb0.cell 0 rfl
    have c1 := hb0.cell 1 rfl
    have c2 := hb0.cell 2 rfl
    have c3 := hb0.cell 3 rfl
    have f0 := hb0.frozen 0 rfl
    have f1 := hb0.frozen 1 rfl
    have f2 := hb0.frozen 2 rfl
    have f3 := hb0.frozen 3 rfl
    have hgg := (unhide HS).2.2.2.2.1
    clear hb0 hb1
    go_wp2_with fail
    clear y0 y1 y2 y3 z0 z1 z2 z3 c0 c1 c2 c3 f0 f1 f2 f3 hgg
    refine (pick_lit r (k + 1 + 1 + 1) 4 _ _ (by omega) (by omega) (unhide HS).1).mono ?_
    rintro e W16 ⟨z, rfl, hz, hz2', hr, hg, hl⟩
    obtain ⟨zN, yy16, rfl, hzN, hy, hcy⟩ := lit_val (l := [1, 10, 20, 50]) hl hz (by simpa using hz2')
    (try simp only [World.size_alloc] at hcy)
    have hyf : -9223372036854775808 ≤ yy16 ∧ yy16 ≤ 9223372036854775807 := by simp at hy; omega
    have HQ := hide ((unhide HS).step hr hg hrl)
    clear hr hg hl hy HS
    have hb1 := (unhide HQ).2.2.2.1
    have y0 := hb1.cell 0 rfl
    have y1 := hb1.cell 1 rfl
    have y2 := hb1.cell 2 rfl
    have y3 := hb1.cell 3 rfl
    have z0 := hb1.frozen 0 rfl
    have z1 := hb1.frozen 1 rfl
    have z2 := hb1.frozen 2 rfl
    have z3 := hb1.frozen 3 rfl
    have hb0 := (unhide HQ).2.2.1
    have c0 := hb0.cell 0 rfl
    have c1 := hb0.cell 1 rfl
    have c2 := hb0.cell 2 rfl
    have c3 := hb0.cell 3 rfl
    have f0 := hb0.frozen 0 rfl
    have f1 := hb0.frozen 1 rfl
    have f2 := hb0.frozen 2 rfl
    have f3 := hb0.frozen 3 rfl
    have hgg := (unhide HQ).2.2.2.2.1
    clear hb0 hb1
    have HS16 := hide ((unhide HQ).put 3 (.int .i64 yy16) (by omega) hrl (a' := 1 + x) (t' := y) (u' := 1 + v) (p' := yy16) rfl (by have := (unhide HQ).2.2.2.2.2; unfold FitsE at this ⊢; omega))
    go_wp2_with fail
    clear y0 y1 y2 y3 z0 z1 z2 z3 c0 c1 c2 c3 f0 f1 f2 f3 hgg
    clear HQ hcy hyf
    have hb1 := (unhide HS16).2.2.2.1
    have y0 := hb1.cell 0 rfl
    have y1 := hb1.cell 1 rfl
    have y2 := hb1.cell 2 rfl
    have y3 := hb1.cell 3 rfl
    have z0 := hb1.frozen 0 rfl
    have z1 := hb1.frozen 1 rfl
    have z2 := hb1.frozen 2 rfl
    have z3 := hb1.frozen 3 rfl
    have hb0 := (unhide HS16).2.2.1
    have c0 := hb0.cell 0 rfl
    have c1 := hb0.cell 1 rfl
    have c2 := hb0.cell 2 rfl
    have c3 := hb0.cell 3 rfl
    have f0 := hb0.frozen 0 rfl
    have f1 := hb0.frozen 1 rfl
    have f2 := hb0.frozen 2 rfl
    have f3 := hb0.frozen 3 rfl
    have hgg := (unhide HS16).2.2.2.2.1
    clear hb0 hb1
    refine (c27 r (k + 1 + 1 + 1 + 1) n _ (by omega) (unhide HN) (unhide HS16).1).mono ?_
    rintro e W17 ⟨bo, rfl, hr, hg⟩
    have HS17 := hide ((unhide HS16).step hr hg hrl)
    clear y0 y1 y2 y3 z0 z1 z2 z3 c0 c1 c2 c3 f0 f1 f2 f3 hgg
    clear hr hg HS16
    have hb1 := (unhide HS17).2.2.2.1
    have y0 := hb1.cell 0 rfl
    have y1 := hb1.cell 1 rfl
    have y2 := hb1.cell 2 rfl
    have y3 := hb1.cell 3 rfl
    have z0 := hb1.frozen 0 rfl
    have z1 := hb1.frozen 1 rfl
    have z2 := hb1.frozen 2 rfl
    have z3 := hb1.frozen 3 rfl
    have hb0 := (unhide HS17).2.2.1
    have c0 := hb0.cell 0 rfl
    have c1 := hb0.cell 1 rfl
    have c2 := hb0.cell 2 rfl
    have c3 := hb0.cell 3 rfl
    have f0 := hb0.frozen 0 rfl
    have f1 := hb0.frozen 1 rfl
    have f2 := hb0.frozen 2 rfl
    have f3 := hb0.frozen 3 rfl
    have hgg := (unhide HS17).2.2.2.2.1
    clear hb0 hb1
    cases bo
    · go_wp2_with fail
      exact bodyPost_ret (v := entV (1 + x) y (1 + v) yy16) (by simp [results, Tryz.results69, go_sem, c0, c1, c2, c3]) rfl ((unhide HS17).fin hrl (by omega))
    go_wp2_with fail
    refine (c26 r (k + 1 + 1 + 1 + 1 + 1) 4 _ (by omega) (unhide HS17).1).mono ?_
    rintro e W18 ⟨q, rfl, hq, hq2, hr, hg⟩
    have HS18 := hide ((unhide HS17).step hr hg hrl)
    clear y0 y1 y2 y3 z0 z1 z2 z3 c0 c1 c2 c3 f0 f1 f2 f3 hgg
    clear hr hg hq2 HS17
    by_cases h0 : q = 0
    · subst h0
      have hb1 := (unhide HS18).2.2.2.1
      have y0 := hb1.cell 0 rfl
      have y1 := hb1.cell 1 rfl
      have y2 := hb1.cell 2 rfl
      have y3 := hb1.cell 3 rfl
      have z0 := hb1.frozen 0 rfl
      have z1 := hb1.frozen 1 rfl
      have z2 := hb1.frozen 2 rfl
      have z3 := hb1.frozen 3 rfl
      have hb0 := (unhide HS18).2.2.1
      have c0 := hb0.cell 0 rfl
      have c1 := hb0.cell 1 rfl
      have c2 := hb0.cell 2 rfl
      have c3 := hb0.cell 3 rfl
      have f0 := hb0.frozen 0 rfl
      have f1 := hb0.frozen 1 rfl
      have f2 := hb0.frozen 2 rfl
      have f3 := hb0.frozen 3 rfl
      have hgg := (unhide HS18).2.2.2.2.1
      clear hb0 hb1
      go_wp2_with fail
      clear y0 y1 y2 y3 z0 z1 z2 z3 c0 c1 c2 c3 f0 f1 f2 f3 hgg
      refine (pick_lit r (k + 1 + 1 + 1 + 1 + 1 + 1) 3 _ _ (by omega) (by omega) (unhide HS18).1).mono ?_
      rintro e W19 ⟨z, rfl, hz, hz2', hr, hg, hl⟩
      obtain ⟨zN, yy19, rfl, hzN, hy, hcy⟩ := lit_val (l := [0, 4, -1]) hl hz (by simpa using hz2')
      (try simp only [World.size_alloc] at hcy)
      have hyf : -9223372036854775808 ≤ yy19 ∧ yy19 ≤ 9223372036854775807 := by simp at hy; omega
      have HQ := hide ((unhide HS18).step hr hg hrl)
      clear hr hg hl hy HS18
      have hb1 := (unhide HQ).2.2.2.1
      have y0 := hb1.cell 0 rfl
      have y1 := hb1.cell 1 rfl
      have y2 := hb1.cell 2 rfl
      have y3 := hb1.cell 3 rfl
      have z0 := hb1.frozen 0 rfl
      have z1 := hb1.frozen 1 rfl
      have z2 := hb1.frozen 2 rfl
      have z3 := hb1.frozen 3 rfl
      have hb0 := (unhide HQ).2.2.1
      have c0 := hb0.cell 0 rfl
      have c1 := hb0.cell 1 rfl
      have c2 := hb0.cell 2 rfl
      have c3 := hb0.cell 3 rfl
      have f0 := hb0.frozen 0 rfl
      have f1 := hb0.frozen 1 rfl
      have f2 := hb0.frozen 2 rfl
      have f3 := hb0.frozen 3 rfl
      have hgg := (unhide HQ).2.2.2.2.1
      clear hb0 hb1
      have HS19 := hide ((unhide HQ).put 0 (.int .i64 yy19) (by omega) hrl (a' := yy19) (t' := y) (u' := 1 + v) (p' := yy16) rfl (by have := (unhide HQ).2.2.2.2.2; unfold FitsE at this ⊢; omega))
      go_wp2_with fail
      clear y0 y1 y2 y3 z0 z1 z2 z3 c0 c1 c2 c3 f0 f1 f2 f3 hgg
      clear HQ hcy hyf
      have hb1 := (unhide HS19).2.2.2.1
      have y0 := hb1.cell 0 rfl
      have y1 := hb1.cell 1 rfl
      have y2 := hb1.cell 2 rfl
      have y3 := hb1.cell 3 rfl
      have z0 := hb1.frozen 0 rfl
      have z1 := hb1.frozen 1 rfl
      have z2 := hb1.frozen 2 rfl
      have z3 := hb1.frozen 3 rfl
      have hb0 := (unhide HS19).2.2.1
      have c0 := hb0.cell 0 rfl
      have c1 := hb0.cell 1 rfl
      have c2 := hb0.cell 2 rfl
      have c3 := hb0.cell 3 rfl
      have f0 := hb0.frozen 0 rfl
      have f1 := hb0.frozen 1 rfl
      have f2 := hb0.frozen 2 rfl
      have f3 := hb0.frozen 3 rfl
      have hgg := (unhide HS19).2.2.2.2.1
      clear hb0 hb1
      exact bodyPost_ret (v := entV yy19 y (1 + v) yy16) (by simp [results, Tryz.results69, go_sem, c0, c1, c2, c3]) rfl ((unhide HS19).fin hrl (by omega))
    have q0 : (q == 0) = false := by simpa using h0
    by_cases h1 : q = 1
    · subst h1
      have hb1 := (unhide HS18).2.2.2.1
      have y0 := hb1.cell 0 rfl
      have y1 := hb1.cell 1 rfl
      have y2 := hb1.cell 2 rfl
      have y3 := hb1.cell 3 rfl
      have z0 := hb1.frozen 0 rfl
      have z1 := hb1.frozen 1 rfl
      have z2 := hb1.frozen 2 rfl
      have z3 := hb1.frozen 3 rfl
      have hb0 := (unhide HS18).2.2.1
      have c0 := hb0.cell 0 rfl
      have c1 := hb0.cell 1 rfl
      have c2 := hb0.cell 2 rfl
      have c3 := hb0.cell 3 rfl
      have f0 := hb0.frozen 0 rfl
      have f1 := hb0.frozen 1 rfl
      have f2 := hb0.frozen 2 rfl
      have f3 := hb0.frozen 3 rfl
      have hgg := (unhide HS18).2.2.2.2.1
      clear hb0 hb1
      go_wp2_with fail
      clear y0 y1 y2 y3 z0 z1 z2 z3 c0 c1 c2 c3 f0 f1 f2 f3 hgg
      refine (pick_lit r (k + 1 + 1 + 1 + 1 + 1 + 1) 2 _ _ (by omega) (by omega) (unhide HS18).1).mono ?_
      rintro e W20 ⟨z, rfl, hz, hz2', hr, hg, hl⟩
      obtain ⟨zN, yy20, rfl, hzN, hy, hcy⟩ := lit_val (l := [-1, 8]) hl hz (by simpa using hz2')
      (try simp only [World.size_alloc] at hcy)
      have hyf : -9223372036854775808 ≤ yy20 ∧ yy20 ≤ 9223372036854775807 := by simp at hy; omega
      have HQ := hide ((unhide HS18).step hr hg hrl)
      clear hr hg hl hy HS18
      have hb1 := (unhide HQ).2.2.2.1
      have y0 := hb1.cell 0 rfl
      have y1 := hb1.cell 1 rfl
      have y2 := hb1.cell 2 rfl
      have y3 := hb1.cell 3 rfl
      have z0 := hb1.frozen 0 rfl
      have z1 := hb1.frozen 1 rfl
      have z2 := hb1.frozen 2 rfl
      have z3 := hb1.frozen 3 rfl
      have hb0 := (unhide HQ).2.2.1
      have c0 := hb0.cell 0 rfl
      have c1 := hb0.cell 1 rfl
      have c2 := hb0.cell 2 rfl
      have c3 := hb0.cell 3 rfl
      have f0 := hb0.frozen 0 rfl
      have f1 := hb0.frozen 1 rfl
      have f2 := hb0.frozen 2 rfl
      have f3 := hb0.frozen 3 rfl
      have hgg := (unhide HQ).2.2.2.2.1
      clear hb0 hb1
      have HS20 := hide ((unhide HQ).put 1 (.int .i64 yy20) (by omega) hrl (a' := 1 + x) (t' := yy20) (u' := 1 + v) (p' := yy16) rfl (by have := (unhide HQ).2.2.2.2.2; unfold FitsE at this ⊢; omega))
      go_wp2_with fail
      clear y0 y1 y2 y3 z0 z1 z2 z3 c0 c1 c2 c3 f0 f1 f2 f3 hgg
      clear HQ hcy hyf
      have hb1 := (unhide HS20).2.2.2.1
      have y0 := hb1.cell 0 rfl
      have y1 := hb1.cell 1 rfl
      have y2 := hb1.cell 2 rfl
      have y3 := hb1.cell 3 rfl
      have z0 := hb1.frozen 0 rfl
      have z1 := hb1.frozen 1 rfl
      have z2 := hb1.frozen 2 rfl
      have z3 := hb1.frozen 3 rfl
      have hb0 := (unhide HS20).2.2.1
      have c0 := hb0.cell 0 rfl
      have c1 := hb0.cell 1 rfl
      have c2 := hb0.cell 2 rfl
      have c3 := hb0.cell 3 rfl
      have f0 := hb0.frozen 0 rfl
      have f1 := hb0.frozen 1 rfl
      have f2 := hb0.frozen 2 rfl
      have f3 := hb0.frozen 3 rfl
      have hgg := (unhide HS20).2.2.2.2.1
      clear hb0 hb1
      exact bodyPost_ret (v := entV (1 + x) yy20 (1 + v) yy16) (by simp [results, Tryz.results69, go_sem, c0, c1, c2, c3]) rfl ((unhide HS20).fin hrl (by omega))
    have q1 : (q == 1) = false := by simpa using h1
    by_cases h2 : q = 2
    · subst h2
      have hb1 := (unhide HS18).2.2.2.1
      have y0 := hb1.cell 0 rfl
      have y1 := hb1.cell 1 rfl
      have y2 := hb1.cell 2 rfl
      have y3 := hb1.cell 3 rfl
      have z0 := hb1.frozen 0 rfl
      have z1 := hb1.frozen 1 rfl
      have z2 := hb1.frozen 2 rfl
      have z3 := hb1.frozen 3 rfl
      have hb0 := (unhide HS18).2.2.1
      have c0 := hb0.cell 0 rfl
      have c1 := hb0.cell 1 rfl
      have c2 := hb0.cell 2 rfl
      have c3 := hb0.cell 3 rfl
      have f0 := hb0.frozen 0 rfl
      have f1 := hb0.frozen 1 rfl
      have f2 := hb0.frozen 2 rfl
      have f3 := hb0.frozen 3 rfl
      have hgg := (unhide HS18).2.2.2.2.1
      clear hb0 hb1
      go_wp2_with fail
      clear y0 y1 y2 y3 z0 z1 z2 z3 c0 c1 c2 c3 f0 f1 f2 f3 hgg
      refine (pick_lit r (k + 1 + 1 + 1 + 1 + 1 + 1) 2 _ _ (by omega) (by omega) (unhide HS18).1).mono ?_
      rintro e W21 ⟨z, rfl, hz, hz2', hr, hg, hl⟩
      obtain ⟨zN, yy21, rfl, hzN, hy, hcy⟩ := lit_val (l := [0, 6]) hl hz (by simpa using hz2')
      (try simp only [World.size_alloc] at hcy)
      have hyf : -9223372036854775808 ≤ yy21 ∧ yy21 ≤ 9223372036854775807 := by simp at hy; omega
      have HQ := hide ((unhide HS18).step hr hg hrl)
      clear hr hg hl hy HS18
      have hb1 := (unhide HQ).2.2.2.1
      have y0 := hb1.cell 0 rfl
      have y1 := hb1.cell 1 rfl
      have y2 := hb1.cell 2 rfl
      have y3 := hb1.cell 3 rfl
      have z0 := hb1.frozen 0 rfl
      have z1 := hb1.frozen 1 rfl
      have z2 := hb1.frozen 2 rfl
      have z3 := hb1.frozen 3 rfl
      have hb0 := (unhide HQ).2.2.1
      have c0 := hb0.cell 0 rfl
      have c1 := hb0.cell 1 rfl
      have c2 := hb0.cell 2 rfl
      have c3 := hb0.cell 3 rfl
      have f0 := hb0.frozen 0 rfl
      have f1 := hb0.frozen 1 rfl
      have f2 := hb0.frozen 2 rfl
      have f3 := hb0.frozen 3 rfl
      have hgg := (unhide HQ).2.2.2.2.1
      clear hb0 hb1
      have HS21 := hide ((unhide HQ).put 2 (.int .i64 yy21) (by omega) hrl (a' := 1 + x) (t' := y) (u' := yy21) (p' := yy16) rfl (by have := (unhide HQ).2.2.2.2.2; unfold FitsE at this ⊢; omega))
      go_wp2_with fail
      clear y0 y1 y2 y3 z0 z1 z2 z3 c0 c1 c2 c3 f0 f1 f2 f3 hgg
      clear HQ hcy hyf
      have hb1 := (unhide HS21).2.2.2.1
      have y0 := hb1.cell 0 rfl
      have y1 := hb1.cell 1 rfl
      have y2 := hb1.cell 2 rfl
      have y3 := hb1.cell 3 rfl
      have z0 := hb1.frozen 0 rfl
      have z1 := hb1.frozen 1 rfl
      have z2 := hb1.frozen 2 rfl
      have z3 := hb1.frozen 3 rfl
      have hb0 := (unhide HS21).2.2.1
      have c0 := hb0.cell 0 rfl
      have c1 := hb0.cell 1 rfl
      have c2 := hb0.cell 2 rfl
      have c3 := hb0.cell 3 rfl
      have f0 := hb0.frozen 0 rfl
      have f1 := hb0.frozen 1 rfl
      have f2 := hb0.frozen 2 rfl
      have f3 := hb0.frozen 3 rfl
      have hgg := (unhide HS21).2.2.2.2.1
      clear hb0 hb1
      exact bodyPost_ret (v := entV (1 + x) y yy21 yy16) (by simp [results, Tryz.results69, go_sem, c0, c1, c2, c3]) rfl ((unhide HS21).fin hrl (by omega))
    have q2 : (q == 2) = false := by simpa using h2
    have hb1 := (unhide HS18).2.2.2.1
    have y0 := hb1.cell 0 rfl
    have y1 := hb1.cell 1 rfl
    have y2 := hb1.cell 2 rfl
    have y3 := hb1.cell 3 rfl
    have z0 := hb1.frozen 0 rfl
    have z1 := hb1.frozen 1 rfl
    have z2 := hb1.frozen 2 rfl
    have z3 := hb1.frozen 3 rfl
    have hb0 := (unhide HS18).2.2.1
    have c0 := hb0.cell 0 rfl
    have c1 := hb0.cell 1 rfl
    have c2 := hb0.cell 2 rfl
    have c3 := hb0.cell 3 rfl
    have f0 := hb0.frozen 0 rfl
    have f1 := hb0.frozen 1 rfl
    have f2 := hb0.frozen 2 rfl
    have f3 := hb0.frozen 3 rfl
    have hgg := (unhide HS18).2.2.2.2.1
    clear hb0 hb1
    have hcap : Tm.cap 50 = 60 := by decide
    go_wp2_with (go_at_call 67; refine (c67 _ _).mono ?_; rintro e w' ⟨rfl, rfl⟩)
    clear y0 y1 y2 y3 z0 z1 z2 z3 c0 c1 c2 c3 f0 f1 f2 f3 hgg
    refine (pick_lit r (k + 1 + 1 + 1 + 1 + 1 + 1) 5 _ _ (by omega) (by omega) (unhide HS18).1).mono ?_
    rintro e W22 ⟨z, rfl, hz, hz2', hr, hg, hl⟩
    obtain ⟨zN, yy22, rfl, hzN, hy, hcy⟩ := lit_val (l := [0, -1, 51, 60, 61]) hl hz (by simpa using hz2')
    (try simp only [World.size_alloc] at hcy)
    have hyf : -9223372036854775808 ≤ yy22 ∧ yy22 ≤ 9223372036854775807 := by simp at hy; omega
    have HQ := hide ((unhide HS18).step hr hg hrl)
    clear hr hg hl hy HS18
    have hb1 := (unhide HQ).2.2.2.1
    have y0 := hb1.cell 0 rfl
    have y1 := hb1.cell 1 rfl
    have y2 := hb1.cell 2 rfl
    have y3 := hb1.cell 3 rfl
    have z0 := hb1.frozen 0 rfl
    have z1 := hb1.frozen 1 rfl
    have z2 := hb1.frozen 2 rfl
    have z3 := hb1.frozen 3 rfl
    have hb0 := (unhide HQ).2.2.1
    have c0 := hb0.cell 0 rfl
    have c1 := hb0.cell 1 rfl
    have c2 := hb0.cell 2 rfl
    have c3 := hb0.cell 3 rfl
    have f0 := hb0.frozen 0 rfl
    have f1 := hb0.frozen 1 rfl
    have f2 := hb0.frozen 2 rfl
    have f3 := hb0.frozen 3 rfl
    have hgg := (unhide HQ).2.2.2.2.1
    clear hb0 hb1
    have HS22 := hide ((unhide HQ).put 3 (.int .i64 yy22) (by omega) hrl (a' := 1 + x) (t' := y) (u' := 1 + v) (p' := yy22) rfl (by have := (unhide HQ).2.2.2.2.2; unfold FitsE at this ⊢; omega))
    go_wp2_with fail
    clear y0 y1 y2 y3 z0 z1 z2 z3 c0 c1 c2 c3 f0 f1 f2 f3 hgg
    clear HQ hcy hyf
    have hb1 := (unhide HS22).2.2.2.1
    have y0 := hb1.cell 0 rfl
    have y1 := hb1.cell 1 rfl
    have y2 := hb1.cell 2 rfl
    have y3 := hb1.cell 3 rfl
    have z0 := hb1.frozen 0 rfl
    have z1 := hb1.frozen 1 rfl
    have z2 := hb1.frozen 2 rfl
    have z3 := hb1.frozen 3 rfl
    have hb0 := (unhide HS22).2.2.1
    have c0 := hb0.cell 0 rfl
    have c1 := hb0.cell 1 rfl
    have c2 := hb0.cell 2 rfl
    have c3 := hb0.cell 3 rfl
    have f0 := hb0.frozen 0 rfl
    have f1 := hb0.frozen 1 rfl
    have f2 := hb0.frozen 2 rfl
    have f3 := hb0.frozen 3 rfl
    have hgg := (unhide HS22).2.2.2.2.1
    clear hb0 hb1
    exact bodyPost_ret (v := entV (1 + x) y (1 + v) yy22) (by simp [results, Tryz.results69, go_sem, c0, c1, c2, c3]) rfl ((unhide HS22).fin hrl (by omega))
end Go.Proofs.YtmlbphmbffkdnaaGreat
