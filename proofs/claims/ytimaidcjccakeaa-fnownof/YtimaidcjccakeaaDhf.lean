/-
  The draws of two heads, and of two heads and a proof.
-/
import Derived.Test.YtimaidcjccakeaaL21h
import Derived.Test.YtimaidcjccakeaaLawsho
namespace Go.Proofs.Ytimaidcjccakeaa
open Go.RowKit
set_option linter.unusedVariables false
set_option maxRecDepth 100000

theorem below_sc {A W : World} {p : Addr} {v : Value} (h : Below A.heap.size A W) (hg : A.heap.size ≤ p.block) : Below A.heap.size A (W.setCell p v) := h.setCell hg v
/-- two heads, drawn of a code -/
def HeadsD (w : World) (e : Ending) (w' : World) : Prop :=
  ∃ a b c a' b' c' : Int, e = .returned (.tuple #[hedV a b c, hedV a' b' c']) ∧ Below w.heap.size w w'

set_option maxHeartbeats 8000000 in
theorem c85 (bs : List Int) (ao : Option Addr) (n cap : Nat) (w : World) (hn : bs.length = n) (hc : n ≤ cap) (hm : cap ≤ maxLen) (hB : Bytes w ao bs) :
    Calls Try.prog 85 #[.slice ao n cap] w (HeadsD w) := by
  have HB := hide (Below.refl w.heap.size w)
  have HBY := hide hB
  clear hB
  replace HB := hide (below_al (o := .cells #[.int .i64 0, .int .i64 0, .int .i64 0] 65) (unhide HB))
  replace HBY := hide ((unhide HBY).bel (below_a (.cells #[.int .i64 0, .int .i64 0, .int .i64 0] 65)))
  have HZ := hide (box_new w [.int .i64 0, .int .i64 0, .int .i64 0] 65 (by simp [Value.oneCell']))
  (try simp only [World.size_alloc] at HZ)
  replace HB := hide (below_al (o := .cells #[.int .i64 0, .int .i64 0, .int .i64 0] 65) (unhide HB))
  replace HBY := hide ((unhide HBY).bel (below_a (.cells #[.int .i64 0, .int .i64 0, .int .i64 0] 65)))
  replace HZ := hide ((unhide HZ).bel (below_a (.cells #[.int .i64 0, .int .i64 0, .int .i64 0] 65)))
  have HQ := hide (box_new (w.alloc (.cells #[.int .i64 0, .int .i64 0, .int .i64 0] 65)) [.int .i64 0, .int .i64 0, .int .i64 0] 65 (by simp [Value.oneCell']))
  (try simp only [World.size_alloc] at HQ)
  have z0 := (unhide HZ).cell 0 rfl
  have z0f := (unhide HZ).frozen 0 rfl
  have z1 := (unhide HZ).cell 1 rfl
  have z1f := (unhide HZ).frozen 1 rfl
  have z2 := (unhide HZ).cell 2 rfl
  have z2f := (unhide HZ).frozen 2 rfl
  have q0 := (unhide HQ).cell 0 rfl
  have q0f := (unhide HQ).frozen 0 rfl
  have q1 := (unhide HQ).cell 1 rfl
  have q1f := (unhide HQ).frozen 1 rfl
  have q2 := (unhide HQ).cell 2 rfl
  have q2f := (unhide HQ).frozen 2 rfl
  go_enter Try.func85, Try.ntmps85
  go_wp2_with fail
  refine (c129 bs ao n cap _ hn hc hm (unhide HBY)).mono ?_
  rintro e w1 ⟨rfl, hr, hb, hl1⟩
  clear z0 z0f z1 z1f z2 z2f q0 q0f q1 q1f q2 q2f
  clear HBY
  replace HB := hide (below_tr (unhide HB) hb)
  replace HZ := hide ((unhide HZ).bel hb)
  replace HQ := hide ((unhide HQ).bel hb)
  (try simp only [World.size_alloc] at hr hl1)
  (try simp only [World.size_alloc])
  generalize hrr : w.heap.size + 1 + 1 = r at *
  have HRd := hide hr
  have HRR := hide hrr
  have hwr : w.heap.size ≤ r := by omega
  have hne0 : r ≠ w.heap.size := by omega
  have hne1 : r ≠ w.heap.size + 1 := by omega
  clear hr hb hrr
  have z0 := (unhide HZ).cell 0 rfl
  have z0f := (unhide HZ).frozen 0 rfl
  have z1 := (unhide HZ).cell 1 rfl
  have z1f := (unhide HZ).frozen 1 rfl
  have z2 := (unhide HZ).cell 2 rfl
  have z2f := (unhide HZ).frozen 2 rfl
  have q0 := (unhide HQ).cell 0 rfl
  have q0f := (unhide HQ).frozen 0 rfl
  have q1 := (unhide HQ).cell 1 rfl
  have q1f := (unhide HQ).frozen 1 rfl
  have q2 := (unhide HQ).cell 2 rfl
  have q2f := (unhide HQ).frozen 2 rfl
  go_wp2_with fail
  refine (c130 r (0) 99999 _ (by omega) (by omega) (unhide HRd)).mono ?_
  rintro e w2 ⟨v, es, rfl, hesl, ho, hr, hg⟩
  obtain ⟨ales, caples, rfl, hcles, -, -⟩ := ho.row
  have hbasees : r < w1.heap.size := (unhide HRd).lt
  clear z0 z0f z1 z1f z2 z2f q0 q0f q1 q1f q2 q2f
  replace HB := hide (below_gr (unhide HB) hg (by omega))
  replace HZ := hide ((unhide HZ).kg hg (by omega))
  replace HQ := hide ((unhide HQ).kg hg (by omega))
  replace HRd := hide hr
  clear hr hg
  have HO := hide ho
  clear ho
  have z0 := (unhide HZ).cell 0 rfl
  have z0f := (unhide HZ).frozen 0 rfl
  have z1 := (unhide HZ).cell 1 rfl
  have z1f := (unhide HZ).frozen 1 rfl
  have z2 := (unhide HZ).cell 2 rfl
  have z2f := (unhide HZ).frozen 2 rfl
  have q0 := (unhide HQ).cell 0 rfl
  have q0f := (unhide HQ).frozen 0 rfl
  have q1 := (unhide HQ).cell 1 rfl
  have q1f := (unhide HQ).frozen 1 rfl
  have q2 := (unhide HQ).cell 2 rfl
  have q2f := (unhide HQ).frozen 2 rfl
  go_wp2_with fail
  refine (c168 r (0 + 260) 4 es ales es.length caples w1.heap.size _ (by omega) (by omega) (unhide HRd) rfl hesl hcles hbasees (unhide HO)).mono ?_
  rintro e w3 ⟨s, l, o, rfl, hr, hg⟩
  clear z0 z0f z1 z1f z2 z2f q0 q0f q1 q1f q2 q2f
  replace HB := hide (below_gr (unhide HB) hg (by omega))
  replace HZ := hide ((unhide HZ).kg hg (by omega))
  replace HQ := hide ((unhide HQ).kg hg (by omega))
  replace HO := hide ((unhide HO).kg hg (by omega))
  replace HRd := hide hr
  clear hr hg
  have z0 := (unhide HZ).cell 0 rfl
  have z0f := (unhide HZ).frozen 0 rfl
  have z1 := (unhide HZ).cell 1 rfl
  have z1f := (unhide HZ).frozen 1 rfl
  have z2 := (unhide HZ).cell 2 rfl
  have z2f := (unhide HZ).frozen 2 rfl
  have q0 := (unhide HQ).cell 0 rfl
  have q0f := (unhide HQ).frozen 0 rfl
  have q1 := (unhide HQ).cell 1 rfl
  have q1f := (unhide HQ).frozen 1 rfl
  have q2 := (unhide HQ).cell 2 rfl
  have q2f := (unhide HQ).frozen 2 rfl
  clear z0 z0f z1 z1f z2 z2f q0 q0f q1 q1f q2 q2f
  have hzHX : r < w3.heap.size := (unhide HRd).lt
  replace HB := hide (below_al (o := .cells #[.int .i64 s, .int .i64 l, .int .i64 o] 65) (unhide HB))
  replace HRd := hide ((unhide HRd).alloc (.cells #[.int .i64 s, .int .i64 l, .int .i64 o] 65))
  replace HZ := hide ((unhide HZ).bel (below_a (.cells #[.int .i64 s, .int .i64 l, .int .i64 o] 65)))
  replace HQ := hide ((unhide HQ).bel (below_a (.cells #[.int .i64 s, .int .i64 l, .int .i64 o] 65)))
  replace HO := hide ((unhide HO).bel (below_a (.cells #[.int .i64 s, .int .i64 l, .int .i64 o] 65)))
  have HX := hide (box_new w3 [.int .i64 s, .int .i64 l, .int .i64 o] 65 (by simp [Value.oneCell']))
  have z0 := (unhide HZ).cell 0 rfl
  have z0f := (unhide HZ).frozen 0 rfl
  have z1 := (unhide HZ).cell 1 rfl
  have z1f := (unhide HZ).frozen 1 rfl
  have z2 := (unhide HZ).cell 2 rfl
  have z2f := (unhide HZ).frozen 2 rfl
  have q0 := (unhide HQ).cell 0 rfl
  have q0f := (unhide HQ).frozen 0 rfl
  have q1 := (unhide HQ).cell 1 rfl
  have q1f := (unhide HQ).frozen 1 rfl
  have q2 := (unhide HQ).cell 2 rfl
  have q2f := (unhide HQ).frozen 2 rfl
  have x0 := (unhide HX).cell 0 rfl
  have x0f := (unhide HX).frozen 0 rfl
  have x1 := (unhide HX).cell 1 rfl
  have x1f := (unhide HX).frozen 1 rfl
  have x2 := (unhide HX).cell 2 rfl
  have x2f := (unhide HX).frozen 2 rfl
  go_wp2_with fail
  skip
  refine (c168 r (0 + 260 + 10) 4 es ales es.length caples w1.heap.size _ (by omega) (by omega) (unhide HRd) rfl hesl hcles hbasees (unhide HO)).mono ?_
  rintro e w4 ⟨s', l', o', rfl, hr, hg⟩
  clear z0 z0f z1 z1f z2 z2f q0 q0f q1 q1f q2 q2f x0 x0f x1 x1f x2 x2f
  replace HB := hide (below_gr (unhide HB) hg (by omega))
  replace HZ := hide ((unhide HZ).kg hg (by omega))
  replace HQ := hide ((unhide HQ).kg hg (by omega))
  replace HO := hide ((unhide HO).kg hg (by omega))
  replace HX := hide ((unhide HX).kg hg (by omega))
  replace HRd := hide hr
  clear hr hg
  have z0 := (unhide HZ).cell 0 rfl
  have z0f := (unhide HZ).frozen 0 rfl
  have z1 := (unhide HZ).cell 1 rfl
  have z1f := (unhide HZ).frozen 1 rfl
  have z2 := (unhide HZ).cell 2 rfl
  have z2f := (unhide HZ).frozen 2 rfl
  have q0 := (unhide HQ).cell 0 rfl
  have q0f := (unhide HQ).frozen 0 rfl
  have q1 := (unhide HQ).cell 1 rfl
  have q1f := (unhide HQ).frozen 1 rfl
  have q2 := (unhide HQ).cell 2 rfl
  have q2f := (unhide HQ).frozen 2 rfl
  have x0 := (unhide HX).cell 0 rfl
  have x0f := (unhide HX).frozen 0 rfl
  have x1 := (unhide HX).cell 1 rfl
  have x1f := (unhide HX).frozen 1 rfl
  have x2 := (unhide HX).cell 2 rfl
  have x2f := (unhide HX).frozen 2 rfl
  have hxy := (unhide HX).lt
  have hzy := (unhide HZ).lt
  have hqy := (unhide HQ).lt
  clear z0 z0f z1 z1f z2 z2f q0 q0f q1 q1f q2 q2f x0 x0f x1 x1f x2 x2f
  have hzHY : r < w4.heap.size := (unhide HRd).lt
  replace HB := hide (below_al (o := .cells #[.int .i64 s', .int .i64 l', .int .i64 o'] 65) (unhide HB))
  replace HRd := hide ((unhide HRd).alloc (.cells #[.int .i64 s', .int .i64 l', .int .i64 o'] 65))
  replace HZ := hide ((unhide HZ).bel (below_a (.cells #[.int .i64 s', .int .i64 l', .int .i64 o'] 65)))
  replace HQ := hide ((unhide HQ).bel (below_a (.cells #[.int .i64 s', .int .i64 l', .int .i64 o'] 65)))
  replace HO := hide ((unhide HO).bel (below_a (.cells #[.int .i64 s', .int .i64 l', .int .i64 o'] 65)))
  replace HX := hide ((unhide HX).bel (below_a (.cells #[.int .i64 s', .int .i64 l', .int .i64 o'] 65)))
  have HY := hide (box_new w4 [.int .i64 s', .int .i64 l', .int .i64 o'] 65 (by simp [Value.oneCell']))
  have z0 := (unhide HZ).cell 0 rfl
  have z0f := (unhide HZ).frozen 0 rfl
  have z1 := (unhide HZ).cell 1 rfl
  have z1f := (unhide HZ).frozen 1 rfl
  have z2 := (unhide HZ).cell 2 rfl
  have z2f := (unhide HZ).frozen 2 rfl
  have q0 := (unhide HQ).cell 0 rfl
  have q0f := (unhide HQ).frozen 0 rfl
  have q1 := (unhide HQ).cell 1 rfl
  have q1f := (unhide HQ).frozen 1 rfl
  have q2 := (unhide HQ).cell 2 rfl
  have q2f := (unhide HQ).frozen 2 rfl
  have x0 := (unhide HX).cell 0 rfl
  have x0f := (unhide HX).frozen 0 rfl
  have x1 := (unhide HX).cell 1 rfl
  have x1f := (unhide HX).frozen 1 rfl
  have x2 := (unhide HX).cell 2 rfl
  have x2f := (unhide HX).frozen 2 rfl
  have y0 := (unhide HY).cell 0 rfl
  have y0f := (unhide HY).frozen 0 rfl
  have y1 := (unhide HY).cell 1 rfl
  have y1f := (unhide HY).frozen 1 rfl
  have y2 := (unhide HY).cell 2 rfl
  have y2f := (unhide HY).frozen 2 rfl
  go_wp2_with fail
  clear HO
  refine (c144 r (0 + 260 + 10 + 10) 2 _ (by omega) (unhide HRd)).mono ?_
  rintro e w5 ⟨p, rfl, pa, pb, hr, hg⟩
  have pb := pb (by omega)
  clear z0 z0f z1 z1f z2 z2f q0 q0f q1 q1f q2 q2f x0 x0f x1 x1f x2 x2f y0 y0f y1 y1f y2 y2f
  replace HB := hide (below_gr (unhide HB) hg (by omega))
  replace HZ := hide ((unhide HZ).kg hg (by omega))
  replace HQ := hide ((unhide HQ).kg hg (by omega))
  replace HX := hide ((unhide HX).kg hg (by omega))
  replace HY := hide ((unhide HY).kg hg (by omega))
  replace HRd := hide hr
  clear hr hg
  have z0 := (unhide HZ).cell 0 rfl
  have z0f := (unhide HZ).frozen 0 rfl
  have z1 := (unhide HZ).cell 1 rfl
  have z1f := (unhide HZ).frozen 1 rfl
  have z2 := (unhide HZ).cell 2 rfl
  have z2f := (unhide HZ).frozen 2 rfl
  have q0 := (unhide HQ).cell 0 rfl
  have q0f := (unhide HQ).frozen 0 rfl
  have q1 := (unhide HQ).cell 1 rfl
  have q1f := (unhide HQ).frozen 1 rfl
  have q2 := (unhide HQ).cell 2 rfl
  have q2f := (unhide HQ).frozen 2 rfl
  have x0 := (unhide HX).cell 0 rfl
  have x0f := (unhide HX).frozen 0 rfl
  have x1 := (unhide HX).cell 1 rfl
  have x1f := (unhide HX).frozen 1 rfl
  have x2 := (unhide HX).cell 2 rfl
  have x2f := (unhide HX).frozen 2 rfl
  have y0 := (unhide HY).cell 0 rfl
  have y0f := (unhide HY).frozen 0 rfl
  have y1 := (unhide HY).cell 1 rfl
  have y1f := (unhide HY).frozen 1 rfl
  have y2 := (unhide HY).cell 2 rfl
  have y2f := (unhide HY).frozen 2 rfl
  by_cases h0 : p = 0
  case pos =>
    subst h0
    go_wp2_with fail
    go_region
    all_goals
      go_wp2_with fail
      exact bodyPost_ret (v := .tuple #[hedV s l o, hedV s l' o']) (by simp [results, Try.results85, go_sem, z0, z1, z2, q0, q1, q2]) rfl ⟨_, _, _, _, _, _, rfl, (below_sc (below_sc (below_sc (below_sc (below_sc (below_sc (below_sc (unhide HB) (by dsimp only; omega)) (by dsimp only; omega)) (by dsimp only; omega)) (by dsimp only; omega)) (by dsimp only; omega)) (by dsimp only; omega)) (by dsimp only; omega)).drew⟩
  have d0 : (p == 0) = false := by rw [beq_eq_false_iff_ne]; exact h0
  clear h0
  go_wp2_with fail
  go_region
  all_goals
    go_wp2_with fail
    exact bodyPost_ret (v := .tuple #[hedV s l o, hedV s' l' o']) (by simp [results, Try.results85, go_sem, z0, z1, z2, q0, q1, q2]) rfl ⟨_, _, _, _, _, _, rfl, (below_sc (below_sc (below_sc (below_sc (below_sc (below_sc (unhide HB) (by dsimp only; omega)) (by dsimp only; omega)) (by dsimp only; omega)) (by dsimp only; omega)) (by dsimp only; omega)) (by dsimp only; omega)).drew⟩
end Go.Proofs.Ytimaidcjccakeaa
