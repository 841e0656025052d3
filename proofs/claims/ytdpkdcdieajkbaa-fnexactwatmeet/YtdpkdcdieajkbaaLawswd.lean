/-
  The walk of the exact law FnExactWatMeet: at every argument it answers true, and nothing that was there is written.
-/
import Derived.Test.YtdpkdcdieajkbaaLawswb
import Derived.Test.YtdpkdcdieajkbaaWatm
namespace Go.Proofs.Ytdpkdcdieajkbaa
open Go.RowKit
set_option linter.unusedVariables false
set_option maxRecDepth 100000

set_option maxHeartbeats 8000000 in
theorem law11 (xs : List Tm.Hed) (ys : List Tm.Hed) (ao bo : Option Addr) (n cap m cap' : Nat) (w : World) (hn : xs.length = n) (hcap : n ≤ cap) (hmx : cap ≤ maxLen) (hr : WRow w ao xs) (hn2 : ys.length = m) (hcap2 : m ≤ cap') (hmx2 : cap' ≤ maxLen) (hr2 : WRow w bo ys) :
    Calls Try.prog 11 #[.slice ao n cap, .slice bo m cap'] w (Holds w) := by
  unfold maxLen at hmx hmx2
  have HA := hide hr
  have HC := hide hr2
  have HN := hide hn
  have HN2 := hide hn2
  have HB := hide (Below.refl w.heap.size w)
  clear hr hr2 hn hn2
  by_cases hbig : n ≤ 1048576
  case neg =>
    go_enter Try.func11, Try.ntmps11
    go_wp2_with fail
    refine (sgW ao n cap 1048576 _ (Nat.le_refl _) (by omega)).mono ?_
    rintro e w1 ⟨rfl, hww⟩
    have hww := hww.symm
    subst hww
    rw [if_neg hbig]
    go_wp2_with fail
    go_ret
    exact ⟨rfl, unhide HB⟩
  obtain ⟨l, hl⟩ : ∃ l : Nat, (1048576 : Int) - (n : Int) = (l : Int) := ⟨1048576 - n, by omega⟩
  have hl1 : ¬ ((l : Int) < 0) := by omega
  have hl2 : l + n = 1048576 := by omega
  by_cases hbig2 : m ≤ l
  case neg =>
    go_enter Try.func11, Try.ntmps11
    go_wp2_with fail
    refine (sgW ao n cap 1048576 _ (Nat.le_refl _) (by omega)).mono ?_
    rintro e w1 ⟨rfl, hww⟩
    have hww := hww.symm
    subst hww
    rw [if_pos hbig, show (((1048576 : Nat) : Int) - (n : Int)) = (l : Int) from hl]
    go_wp2_with fail
    refine (sgW bo m cap' l _ (by omega) (by omega)).mono ?_
    rintro e w2 ⟨rfl, hww⟩
    have hww := hww.symm
    subst hww
    rw [if_neg hbig2]
    go_wp2_with fail
    go_ret
    exact ⟨rfl, unhide HB⟩
  have hl3 : ¬ ((l : Int) - (m : Int) < 0) := by omega
  go_enter Try.func11, Try.ntmps11
  go_wp2_with fail
  refine (sgW ao n cap 1048576 _ (Nat.le_refl _) (by omega)).mono ?_
  rintro e w1 ⟨rfl, hww⟩
  have hww := hww.symm
  subst hww
  rw [if_pos hbig, show (((1048576 : Nat) : Int) - (n : Int)) = (l : Int) from hl]
  go_wp2_with fail
  refine (sgW bo m cap' l _ (by omega) (by omega)).mono ?_
  rintro e w2 ⟨rfl, hww⟩
  have hww := hww.symm
  subst hww
  rw [if_pos hbig2]
  go_wp2_with fail
  refine (c62 xs ao n cap _ (unhide HN) (by omega) (unhide HA)).mono ?_
  rintro e w3 ⟨rfl, hx, hb⟩
  (try simp only [World.size_alloc] at hx)
  replace HB := hide (below_tr (unhide HB) hb)
  replace HA := hide ((unhide HA).bel hb)
  replace HC := hide ((unhide HC).bel hb)
  have HT1 := hide (hx.rd (unhide HN))
  clear hb hx
  go_wp2_with fail
  refine (c62 ys bo m cap' _ (unhide HN2) (by omega) (unhide HC)).mono ?_
  rintro e w4 ⟨rfl, hx, hb⟩
  (try simp only [World.size_alloc] at hx)
  replace HB := hide (below_tr (unhide HB) hb)
  replace HA := hide ((unhide HA).bel hb)
  replace HC := hide ((unhide HC).bel hb)
  replace HT1 := hide ((unhide HT1).bel hb)
  have HT2 := hide (hx.rd (unhide HN2))
  clear hb hx
  go_wp2_with fail
  refine (c56 xs ys _ _ n _ m _ _ (unhide HN) (by omega) (unhide HN2) (by omega) (unhide HT1) (unhide HT2)).mono ?_
  rintro e w5 ⟨rfl, hb⟩
  obtain ⟨⟨p0, p1, p2⟩, HPX⟩ : ∃ X, Hid (metX (meet xs ys) = X) := ⟨_, rfl⟩
  obtain ⟨⟨q0, q1, q2⟩, HPY⟩ : ∃ X, Hid (metY (meet xs ys) = X) := ⟨_, rfl⟩
  obtain ⟨bb, HPB⟩ : ∃ X, Hid ((meet xs ys).isSome = X) := ⟨_, rfl⟩
  simp only [metV, hedW, unhide HPX, unhide HPY, unhide HPB]
  replace HB := hide (below_tr (unhide HB) hb)
  replace HA := hide ((unhide HA).bel hb)
  replace HC := hide ((unhide HC).bel hb)
  clear HT1 HT2
  clear hb
  have hnb := box_new (w5.alloc (.cells #[.int .i64 p0, .int .i64 p1, .int .i64 p2] 38)) [.int .i64 q0, .int .i64 q1, .int .i64 q2] 38 (by simp [Value.oneCell'])
  simp only [World.size_alloc] at hnb
  replace HB := hide (below_al (o := .cells #[.int .i64 q0, .int .i64 q1, .int .i64 q2] 38) (below_al (o := .cells #[.int .i64 p0, .int .i64 p1, .int .i64 p2] 38) (unhide HB)))
  replace HA := hide (((unhide HA).bel (below_a (.cells #[.int .i64 p0, .int .i64 p1, .int .i64 p2] 38))).bel (below_a (.cells #[.int .i64 q0, .int .i64 q1, .int .i64 q2] 38)))
  replace HC := hide (((unhide HC).bel (below_a (.cells #[.int .i64 p0, .int .i64 p1, .int .i64 p2] 38))).bel (below_a (.cells #[.int .i64 q0, .int .i64 q1, .int .i64 q2] 38)))
  have HQ1 := hide ((box_new w5 [.int .i64 p0, .int .i64 p1, .int .i64 p2] 38 (by simp [Value.oneCell'])).alloc (.cells #[.int .i64 q0, .int .i64 q1, .int .i64 q2] 38))
  have HQ2 := hide hnb
  clear hnb
  have a0 := (unhide HQ1).cell 0 rfl
  have a1 := (unhide HQ1).cell 1 rfl
  have a2 := (unhide HQ1).cell 2 rfl
  have b0 := (unhide HQ2).cell 0 rfl
  have b1 := (unhide HQ2).cell 1 rfl
  have b2 := (unhide HQ2).cell 2 rfl
  go_wp2_with fail
  refine (c62 xs ao n cap _ (unhide HN) (by omega) (unhide HA)).mono ?_
  rintro e w6 ⟨rfl, hx, hb⟩
  (try simp only [World.size_alloc] at hx)
  (try clear a0 a1 a2 b0 b1 b2)
  replace HB := hide (below_tr (unhide HB) hb)
  replace HA := hide ((unhide HA).bel hb)
  replace HC := hide ((unhide HC).bel hb)
  replace HQ1 := hide ((unhide HQ1).bel hb)
  replace HQ2 := hide ((unhide HQ2).bel hb)
  have HX := hide (hx.rd (unhide HN))
  clear hb hx
  have a0 := (unhide HQ1).cell 0 rfl
  have a1 := (unhide HQ1).cell 1 rfl
  have a2 := (unhide HQ1).cell 2 rfl
  have b0 := (unhide HQ2).cell 0 rfl
  have b1 := (unhide HQ2).cell 1 rfl
  have b2 := (unhide HQ2).cell 2 rfl
  go_wp2_with fail
  refine (c62 ys bo m cap' _ (unhide HN2) (by omega) (unhide HC)).mono ?_
  rintro e w7 ⟨rfl, hx, hb⟩
  (try simp only [World.size_alloc] at hx)
  (try clear a0 a1 a2 b0 b1 b2)
  replace HB := hide (below_tr (unhide HB) hb)
  replace HA := hide ((unhide HA).bel hb)
  replace HC := hide ((unhide HC).bel hb)
  replace HQ1 := hide ((unhide HQ1).bel hb)
  replace HQ2 := hide ((unhide HQ2).bel hb)
  replace HX := hide ((unhide HX).bel hb)
  have HY := hide (hx.rd (unhide HN2))
  clear hb hx
  have a0 := (unhide HQ1).cell 0 rfl
  have a1 := (unhide HQ1).cell 1 rfl
  have a2 := (unhide HQ1).cell 2 rfl
  have b0 := (unhide HQ2).cell 0 rfl
  have b1 := (unhide HQ2).cell 1 rfl
  have b2 := (unhide HQ2).cell 2 rfl
  go_wp2_with fail
  refine (c55 xs ys _ _ n _ m _ _ (unhide HN) (by omega) (unhide HN2) (by omega) (unhide HX) (unhide HY)).mono ?_
  rintro e w8 ⟨rfl, hb⟩
  simp only [metV, hedW, unhide HPX, unhide HPY, unhide HPB]
  (try clear a0 a1 a2 b0 b1 b2)
  replace HB := hide (below_tr (unhide HB) hb)
  replace HA := hide ((unhide HA).bel hb)
  replace HC := hide ((unhide HC).bel hb)
  replace HQ1 := hide ((unhide HQ1).bel hb)
  replace HQ2 := hide ((unhide HQ2).bel hb)
  replace HX := hide ((unhide HX).bel hb)
  replace HY := hide ((unhide HY).bel hb)
  clear hb
  have a0 := (unhide HQ1).cell 0 rfl
  have a1 := (unhide HQ1).cell 1 rfl
  have a2 := (unhide HQ1).cell 2 rfl
  have b0 := (unhide HQ2).cell 0 rfl
  have b1 := (unhide HQ2).cell 1 rfl
  have b2 := (unhide HQ2).cell 2 rfl
  (try clear a0 a1 a2 b0 b1 b2)
  have hnb := box_new (w8.alloc (.cells #[.int .i64 p0, .int .i64 p1, .int .i64 p2] 38)) [.int .i64 q0, .int .i64 q1, .int .i64 q2] 38 (by simp [Value.oneCell'])
  simp only [World.size_alloc] at hnb
  replace HB := hide (below_al (o := .cells #[.int .i64 q0, .int .i64 q1, .int .i64 q2] 38) (below_al (o := .cells #[.int .i64 p0, .int .i64 p1, .int .i64 p2] 38) (unhide HB)))
  replace HA := hide (((unhide HA).bel (below_a (.cells #[.int .i64 p0, .int .i64 p1, .int .i64 p2] 38))).bel (below_a (.cells #[.int .i64 q0, .int .i64 q1, .int .i64 q2] 38)))
  replace HC := hide (((unhide HC).bel (below_a (.cells #[.int .i64 p0, .int .i64 p1, .int .i64 p2] 38))).bel (below_a (.cells #[.int .i64 q0, .int .i64 q1, .int .i64 q2] 38)))
  replace HQ1 := hide (((unhide HQ1).bel (below_a (.cells #[.int .i64 p0, .int .i64 p1, .int .i64 p2] 38))).bel (below_a (.cells #[.int .i64 q0, .int .i64 q1, .int .i64 q2] 38)))
  replace HQ2 := hide (((unhide HQ2).bel (below_a (.cells #[.int .i64 p0, .int .i64 p1, .int .i64 p2] 38))).bel (below_a (.cells #[.int .i64 q0, .int .i64 q1, .int .i64 q2] 38)))
  replace HX := hide (((unhide HX).bel (below_a (.cells #[.int .i64 p0, .int .i64 p1, .int .i64 p2] 38))).bel (below_a (.cells #[.int .i64 q0, .int .i64 q1, .int .i64 q2] 38)))
  replace HY := hide (((unhide HY).bel (below_a (.cells #[.int .i64 p0, .int .i64 p1, .int .i64 p2] 38))).bel (below_a (.cells #[.int .i64 q0, .int .i64 q1, .int .i64 q2] 38)))
  have HQ3 := hide ((box_new w8 [.int .i64 p0, .int .i64 p1, .int .i64 p2] 38 (by simp [Value.oneCell'])).alloc (.cells #[.int .i64 q0, .int .i64 q1, .int .i64 q2] 38))
  have HQ4 := hide hnb
  clear hnb
  have a0 := (unhide HQ1).cell 0 rfl
  have a1 := (unhide HQ1).cell 1 rfl
  have a2 := (unhide HQ1).cell 2 rfl
  have b0 := (unhide HQ2).cell 0 rfl
  have b1 := (unhide HQ2).cell 1 rfl
  have b2 := (unhide HQ2).cell 2 rfl
  have c0 := (unhide HQ3).cell 0 rfl
  have c1 := (unhide HQ3).cell 1 rfl
  have c2 := (unhide HQ3).cell 2 rfl
  have d0 := (unhide HQ4).cell 0 rfl
  have d1 := (unhide HQ4).cell 1 rfl
  have d2 := (unhide HQ4).cell 2 rfl
  go_wp2_with fail
  refine (c65 p0 p1 p2 p0 p1 p2 _).mono ?_
  rintro e w9 ⟨rfl, hb⟩
  rw [decide_eq_true rfl]
  (try clear a0 a1 a2 b0 b1 b2 c0 c1 c2 d0 d1 d2)
  replace HB := hide (below_tr (unhide HB) hb)
  replace HA := hide ((unhide HA).bel hb)
  replace HC := hide ((unhide HC).bel hb)
  replace HQ2 := hide ((unhide HQ2).bel hb)
  replace HX := hide ((unhide HX).bel hb)
  replace HY := hide ((unhide HY).bel hb)
  replace HQ4 := hide ((unhide HQ4).bel hb)
  clear HQ1 HQ3
  clear hb
  have b0 := (unhide HQ2).cell 0 rfl
  have b1 := (unhide HQ2).cell 1 rfl
  have b2 := (unhide HQ2).cell 2 rfl
  have d0 := (unhide HQ4).cell 0 rfl
  have d1 := (unhide HQ4).cell 1 rfl
  have d2 := (unhide HQ4).cell 2 rfl
  go_wp2_with fail
  refine (c65 q0 q1 q2 q0 q1 q2 _).mono ?_
  rintro e w10 ⟨rfl, hb⟩
  rw [decide_eq_true rfl]
  (try clear b0 b1 b2 d0 d1 d2)
  replace HB := hide (below_tr (unhide HB) hb)
  replace HA := hide ((unhide HA).bel hb)
  replace HC := hide ((unhide HC).bel hb)
  replace HX := hide ((unhide HX).bel hb)
  replace HY := hide ((unhide HY).bel hb)
  clear HQ2 HQ4
  clear hb
  go_wp2_with fail
  refine (c62 xs ao n cap _ (unhide HN) (by omega) (unhide HA)).mono ?_
  rintro e w11 ⟨rfl, hx, hb⟩
  (try simp only [World.size_alloc] at hx)
  replace HB := hide (below_tr (unhide HB) hb)
  replace HA := hide ((unhide HA).bel hb)
  replace HC := hide ((unhide HC).bel hb)
  replace HX := hide ((unhide HX).bel hb)
  replace HY := hide ((unhide HY).bel hb)
  have HT3 := hide (hx.rd (unhide HN))
  clear hb hx
  go_wp2_with fail
  refine (sameW xs _ _ _ _ _ _ (unhide HN) (by omega) (unhide HX) (unhide HT3)).mono ?_
  rintro e w12 ⟨rfl, hb⟩
  replace HB := hide (below_tr (unhide HB) hb)
  replace HA := hide ((unhide HA).bel hb)
  replace HC := hide ((unhide HC).bel hb)
  replace HY := hide ((unhide HY).bel hb)
  clear HT3 HX
  clear hb
  go_wp2_with fail
  refine (c62 ys bo m cap' _ (unhide HN2) (by omega) (unhide HC)).mono ?_
  rintro e w13 ⟨rfl, hx, hb⟩
  (try simp only [World.size_alloc] at hx)
  replace HB := hide (below_tr (unhide HB) hb)
  replace HA := hide ((unhide HA).bel hb)
  replace HC := hide ((unhide HC).bel hb)
  replace HY := hide ((unhide HY).bel hb)
  have HT4 := hide (hx.rd (unhide HN2))
  clear hb hx
  go_wp2_with fail
  refine (sameW ys _ _ _ _ _ _ (unhide HN2) (by omega) (unhide HY) (unhide HT4)).mono ?_
  rintro e w14 ⟨rfl, hb⟩
  replace HB := hide (below_tr (unhide HB) hb)
  replace HA := hide ((unhide HA).bel hb)
  replace HC := hide ((unhide HC).bel hb)
  clear HT4 HY
  clear hb
  go_wp2_with fail
  go_ret
  exact ⟨rfl, unhide HB⟩
end Go.Proofs.Ytdpkdcdieajkbaa
