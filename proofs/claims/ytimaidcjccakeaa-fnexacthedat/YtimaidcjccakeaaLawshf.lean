/-
  The walk of the law FnExactHedAt: at every argument it answers true, and nothing that was there is written.
-/
import Derived.Test.YtimaidcjccakeaaLawsha
namespace Go.Proofs.Ytimaidcjccakeaa
open Go.RowKit
set_option linter.unusedVariables false
set_option maxRecDepth 100000

set_option maxHeartbeats 4000000 in
theorem law22 (es : List Tm.Ent) (i : Int) (ao : Option Addr) (n cap : Nat) (w : World) (hn : es.length = n) (hcap : n ≤ cap) (hmx : cap ≤ maxLen) (hr : ERow w ao es) :
    Calls Try.prog 22 #[.slice ao n cap, .int .i64 i] w (Holds w) := by
  unfold maxLen at hmx
  by_cases hbig : n ≤ 1048576
  case neg =>
    go_enter Try.func22, Try.ntmps22
    go_wp2_with fail
    refine (c101 ao n cap _ (by omega)).mono ?_
    rintro e w1 ⟨rfl, rfl⟩
    rw [if_neg hbig]
    go_wp2_with fail
    go_ret
    exact ⟨rfl, Below.refl _ _⟩
  have HA := hide hr
  have HN := hide hn
  have HB := hide (Below.refl w.heap.size w)
  clear hr hn
  have hnn : ¬ (1048576 - (n : Int) < 0) := by omega
  go_enter Try.func22, Try.ntmps22
  go_wp2_with fail
  refine (c101 ao n cap _ (by omega)).mono ?_
  rintro e w0 ⟨rfl, hw0⟩
  have hw0 := hw0.symm
  subst hw0
  rw [if_pos hbig]
  go_wp2_with fail
  refine (c103 es ao n cap _ HN.out (by omega) (unhide HA)).mono ?_
  rintro e w1 ⟨rfl, ho, hb⟩
  (try simp only [World.size_alloc] at ho)
  replace HB := hide (below_tr (unhide HB) hb)
  replace HA := hide ((unhide HA).bel hb)
  have HT := hide (ho)
  clear hb ho
  go_wp2_with fail
  generalize hs : aS es i = s at *
  generalize hl : aL es i = l at *
  generalize hoo : aO es i = o at *
  generalize hbb : aI es i = b at *
  have HS := hide hs
  have HL := hide hl
  have HO := hide hoo
  have HBB := hide hbb
  clear hs hl hoo hbb
  refine (c75 es i _ n n _ HN.out (Nat.le_refl _) (by omega) ((unhide HT).rd HN.out)).mono ?_
  rintro e w2 ⟨rfl, hb⟩
  rw [unhide HS, unhide HL, unhide HO, unhide HBB]
  replace HB := hide (below_tr (unhide HB) hb)
  replace HA := hide ((unhide HA).bel hb)
  clear HT
  clear hb
  have HX := hide (box_new w2 [.int .i64 s, .int .i64 l, .int .i64 o] 65 (by simp [Value.oneCell']))
  replace HB := hide (below_al (o := .cells #[.int .i64 s, .int .i64 l, .int .i64 o] 65) (unhide HB))
  replace HA := hide ((unhide HA).bel (below_a (.cells #[.int .i64 s, .int .i64 l, .int .i64 o] 65)))
  have x0 := (unhide HX).cell 0 rfl
  have x1 := (unhide HX).cell 1 rfl
  have x2 := (unhide HX).cell 2 rfl
  go_wp2_with fail
  refine (c103 es ao n cap _ HN.out (by omega) (unhide HA)).mono ?_
  rintro e w3 ⟨rfl, ho, hb⟩
  (try simp only [World.size_alloc] at ho)
  clear x0 x1 x2
  replace HB := hide (below_tr (unhide HB) hb)
  replace HA := hide ((unhide HA).bel hb)
  replace HX := hide ((unhide HX).bel hb)
  have HT := hide (ho)
  clear hb ho
  have x0 := (unhide HX).cell 0 rfl
  have x1 := (unhide HX).cell 1 rfl
  have x2 := (unhide HX).cell 2 rfl
  go_wp2_with fail
  refine (c74 es i _ n n _ HN.out (Nat.le_refl _) (by omega) ((unhide HT).rd HN.out)).mono ?_
  rintro e w4 ⟨rfl, hb⟩
  rw [unhide HS, unhide HL, unhide HO, unhide HBB]
  clear x0 x1 x2
  replace HB := hide (below_tr (unhide HB) hb)
  replace HA := hide ((unhide HA).bel hb)
  replace HX := hide ((unhide HX).bel hb)
  replace HT := hide ((unhide HT).bel hb)
  clear hb
  have x0 := (unhide HX).cell 0 rfl
  have x1 := (unhide HX).cell 1 rfl
  have x2 := (unhide HX).cell 2 rfl
  have hlt := (unhide HX).lt
  clear x0 x1 x2
  have HY := hide (box_new w4 [.int .i64 s, .int .i64 l, .int .i64 o] 65 (by simp [Value.oneCell']))
  replace HB := hide (below_al (o := .cells #[.int .i64 s, .int .i64 l, .int .i64 o] 65) (unhide HB))
  replace HA := hide ((unhide HA).bel (below_a (.cells #[.int .i64 s, .int .i64 l, .int .i64 o] 65)))
  replace HT := hide ((unhide HT).bel (below_a (.cells #[.int .i64 s, .int .i64 l, .int .i64 o] 65)))
  replace HX := hide ((unhide HX).bel (below_a (.cells #[.int .i64 s, .int .i64 l, .int .i64 o] 65)))
  have x0 := (unhide HX).cell 0 rfl
  have x1 := (unhide HX).cell 1 rfl
  have x2 := (unhide HX).cell 2 rfl
  have y0 := (unhide HY).cell 0 rfl
  have y1 := (unhide HY).cell 1 rfl
  have y2 := (unhide HY).cell 2 rfl
  go_wp2_with fail
  refine (c96 s l o s l o _).mono ?_
  rintro e w5 ⟨rfl, hb⟩
  rw [decide_eq_true (rfl : (s, l, o) = (s, l, o))]
  clear hlt
  clear x0 x1 x2 y0 y1 y2
  replace HB := hide (below_tr (unhide HB) hb)
  replace HA := hide ((unhide HA).bel hb)
  replace HT := hide ((unhide HT).bel hb)
  clear HX HY
  clear hb
  go_wp2_with fail
  refine (c103 es ao n cap _ HN.out (by omega) (unhide HA)).mono ?_
  rintro e w6 ⟨rfl, ho, hb⟩
  (try simp only [World.size_alloc] at ho)
  replace HB := hide (below_tr (unhide HB) hb)
  replace HA := hide ((unhide HA).bel hb)
  replace HT := hide ((unhide HT).bel hb)
  have HT2 := hide (ho)
  clear hb ho
  go_wp2_with fail
  refine (sameE es _ _ n n n _ HN.out (by omega) ((unhide HT).rd HN.out) ((unhide HT2).rd HN.out)).mono ?_
  rintro e w7 ⟨rfl, hb⟩
  replace HB := hide (below_tr (unhide HB) hb)
  replace HA := hide ((unhide HA).bel hb)
  replace HT := hide ((unhide HT).bel hb)
  replace HT2 := hide ((unhide HT2).bel hb)
  clear hb
  go_wp2_with fail
  go_ret
  exact ⟨rfl, unhide HB⟩
end Go.Proofs.Ytimaidcjccakeaa
