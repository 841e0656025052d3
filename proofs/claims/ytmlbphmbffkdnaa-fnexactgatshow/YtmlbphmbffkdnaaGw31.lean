/-
  Texts of the proof, what it needs of them: L7c.
-/
import Derived.Test.YtmlbphmbffkdnaaGw16
import Derived.Test.YtmlbphmbffkdnaaGw20
import Derived.Test.YtmlbphmbffkdnaaGw24
import Derived.Test.YtmlbphmbffkdnaaGw30
namespace Go.Proofs.Ytmlbphmbffkdnaa
open Go.RowKit
set_option linter.unusedVariables false
set_option maxRecDepth 100000

theorem elE : ElT 25 134 4 32 := ⟨Try.underlying25, by obtain ⟨i0, hi, hz0, hz1, hz2⟩ := info_parts Try.infoE; exact ⟨i0, _, hi, hz0, hz1, hz2, rfl⟩, by decide⟩
theorem elD : ElT 26 42 5 40 := ⟨Try.underlying26, by obtain ⟨i0, hi, hz0, hz1, hz2⟩ := info_parts Try.infoD; exact ⟨i0, _, hi, hz0, hz1, hz2, rfl⟩, by decide⟩
theorem elI : ElT 23 3 1 8 := ⟨Try.underlying23, by obtain ⟨i0, hi, hz0, hz1, hz2⟩ := info_parts Try.info3; exact ⟨i0, _, hi, hz0, hz1, hz2, rfl⟩, by decide⟩
theorem srcSl {α : Type} {f : α → List Value} {n : Nat} (hf : ∀ x, (f x).length = n) (h1 : ∀ x, ∀ u ∈ f x, u.oneCell' = true) {w : World} {ao : Option Addr} {xs : List α} {c : Nat} (h : Sl f w ao xs) : Src w ao xs.length c n (xs.flatMap f) := by
  refine ⟨flat_len f n hf xs, fun u hu => by obtain ⟨x, _, hx⟩ := List.mem_flatMap.1 hu; exact h1 x u hx, ?_⟩
  rcases xs with _ | ⟨x, t⟩
  · exact .inl rfl
  · obtain ⟨b, off, rfl, hc⟩ := h (by simp)
    exact .inr ⟨_, rfl, fun j u hj => by
      have e : (Addr.add ⟨b, off, none⟩ j) = ⟨b, off + j, none⟩ := by unfold Addr.add; split <;> simp_all
      rw [e]; exact hc j u hj⟩
theorem srcE {w : World} {ao : Option Addr} {xs : List Tm.Ent} {c : Nat} (h : ERow w ao xs) : Src w ao xs.length c 4 (xs.flatMap eCells) := srcSl eCells_len (fun x u hu => by obtain ⟨a, b, c, d⟩ := x; simp [eCells] at hu; rcases hu with rfl | rfl | rfl | rfl <;> rfl) h.2
theorem srcD {w : World} {ao : Option Addr} {xs : List Tm.Deal} {c : Nat} (h : DRow w ao xs) : Src w ao xs.length c 5 (xs.flatMap dCells) := srcSl dCells_len (fun x u hu => by obtain ⟨a, b, c, d, e⟩ := x; simp [dCells] at hu; rcases hu with rfl | rfl | rfl | rfl | rfl <;> rfl) h.2
theorem srcI {w : World} {ao : Option Addr} {xs : List Int} {c : Nat} (h : Row w ao xs) : Src w ao xs.length c 1 (xs.map (Value.int .i64)) := by
  refine ⟨by simp, ints_oneCell _ _, ?_⟩
  rcases xs with _ | ⟨x, t⟩
  · exact .inl rfl
  · obtain ⟨b, off, rfl, -⟩ := h.2 (by simp)
    exact .inr ⟨_, rfl, row_src h⟩

theorem live_form {w : World} {base e size n : Nat} {v : Value} {xs : List Value} (h : w.ownsRow base e size v n xs) : ∃ ao cap, v = .slice ao n cap := by
  rcases h.2 with ⟨rfl, rfl⟩ | ⟨g, cap, cur, rfl, _⟩
  · exact ⟨none, 0, rfl⟩
  · exact ⟨_, cap, rfl⟩
theorem copies5 {w : World} {base : Nat} {es : List Tm.Ent} {pu : List Int} {ds : List Tm.Deal} {cl : Int} {nu sa : List Int} {w0 : World} {q : HP} {t0 t1 t2 t4 t5 : Value} (hr : HRow w0 q ⟨es, pu, ds, cl, nu, sa⟩)
    (hL : Live w base ([(134, 4, t0, es.length, es.flatMap eCells)] ++ ([(3, 1, t1, pu.length, pu.map (Value.int .i64))] ++ ([(42, 5, t2, ds.length, ds.flatMap dCells)] ++ ([(3, 1, t4, nu.length, nu.map (Value.int .i64))] ++ [(3, 1, t5, sa.length, sa.map (Value.int .i64))]))))) :
    ∃ b0 j0 b1 j1 b2 j2 b4 j4 b5 j5, t0 = .slice b0 es.length j0 ∧ t1 = .slice b1 pu.length j1 ∧ t2 = .slice b2 ds.length j2 ∧ t4 = .slice b4 nu.length j4 ∧ t5 = .slice b5 sa.length j5 ∧ HOwn w base ⟨b0, j0, b1, j1, b2, j2, b4, j4, b5, j5⟩ ⟨es, pu, ds, cl, nu, sa⟩ := by
  obtain ⟨h1, h2⟩ := hL
  simp only [List.cons_append, List.nil_append, List.mem_cons, List.not_mem_nil, or_false, forall_eq_or_imp, forall_eq] at h1
  simp only [List.cons_append, List.nil_append, List.pairwise_cons, List.mem_cons, List.not_mem_nil, or_false, forall_eq_or_imp, forall_eq] at h2
  obtain ⟨o0, o1, o2, o4, o5⟩ := h1
  obtain ⟨a0, k0, rfl⟩ := live_form o0
  obtain ⟨a1, k1, rfl⟩ := live_form o1
  obtain ⟨a2, k2, rfl⟩ := live_form o2
  obtain ⟨a4, k4, rfl⟩ := live_form o4
  obtain ⟨a5, k5, rfl⟩ := live_form o5
  obtain ⟨⟨p01, p02, p04, p05⟩, ⟨p12, p14, p15⟩, ⟨p24, p25⟩, p45, -⟩ := h2
  refine ⟨a0, k0, a1, k1, a2, k2, a4, k4, a5, k5, rfl, rfl, rfl, rfl, rfl, ⟨hr.1.1, o0⟩, ⟨hr.2.1.1, o1⟩, ⟨hr.2.2.1.1, o2⟩, ⟨hr.2.2.2.1.1, o4⟩, ⟨hr.2.2.2.2.1, o5⟩, p01, p02, p04, p05, p12, p14, p15, p24, p25, p45⟩
theorem HOwn.kg {w w' : World} {base r : Nat} {q : HP} {h : House} (o : HOwn w base q h) (hg : w.grownBy w' (some r)) (hr : r < base) : HOwn w' base q h := o.kptB hg hr
theorem HOwn.lower {w : World} {base base' : Nat} {q : HP} {h : House} (o : HOwn w base q h) (hb : base' ≤ base) : HOwn w base' q h := ⟨o.1.monoH hb, o.2.1.mono hb, o.2.2.1.monoH hb, o.2.2.2.1.mono hb, o.2.2.2.2.1.mono hb, o.2.2.2.2.2⟩

end Go.Proofs.Ytmlbphmbffkdnaa
