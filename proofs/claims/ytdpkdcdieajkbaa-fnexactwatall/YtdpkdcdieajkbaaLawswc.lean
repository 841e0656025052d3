/-
  The walk of the exact law FnExactWatAll: at every argument it answers true, and nothing that was there is written.
-/
import Derived.Test.YtdpkdcdieajkbaaLawswb
import Derived.Test.YtdpkdcdieajkbaaWata
namespace Go.Proofs.Ytdpkdcdieajkbaa
open Go.RowKit
set_option linter.unusedVariables false
set_option maxRecDepth 100000

set_option maxHeartbeats 8000000 in
theorem law12 (xs : List Tm.Hed) (ys : List Tm.Ent) (ao bo : Option Addr) (n cap m cap' : Nat) (w : World) (hn : xs.length = n) (hcap : n ≤ cap) (hmx : cap ≤ maxLen) (hr : WRow w ao xs) (hn2 : ys.length = m) (hcap2 : m ≤ cap') (hmx2 : cap' ≤ maxLen) (hr2 : ERow w bo ys) :
    Calls Try.prog 12 #[.slice ao n cap, .slice bo m cap'] w (Holds w) := by
  unfold maxLen at hmx hmx2
  have HA := hide hr
  have HC := hide hr2
  have HN := hide hn
  have HN2 := hide hn2
  have HB := hide (Below.refl w.heap.size w)
  clear hr hr2 hn hn2
  by_cases hbig : n ≤ 1048576
  case neg =>
    go_enter Try.func12, Try.ntmps12
    go_wp2_with fail
    refine (sgW ao n cap 1048576 _ (Nat.le_refl _) (by omega)).mono ?_
    rintro e w1 ⟨rfl, hww⟩
    have hww := hww.symm
    subst hww
    rw [if_neg hbig]
    go_wp2_with fail
    go_ret
    exact ⟨rfl, unhide HB⟩
  obtain ⟨l, hl⟩ : ∃ l : Nat, (1048576 : Int) - (n : Int) = (l : Int) := ⟨1048576 - n, by omega⟩
  have hl1 : ¬ ((l : Int) < 0) := by omega
  have hl2 : l + n = 1048576 := by omega
  by_cases hbig2 : m ≤ l
  case neg =>
    go_enter Try.func12, Try.ntmps12
    go_wp2_with fail
    refine (sgW ao n cap 1048576 _ (Nat.le_refl _) (by omega)).mono ?_
    rintro e w1 ⟨rfl, hww⟩
    have hww := hww.symm
    subst hww
    rw [if_pos hbig, show (((1048576 : Nat) : Int) - (n : Int)) = (l : Int) from hl]
    go_wp2_with fail
    refine (sgE bo m cap' l _ (by omega) (by omega)).mono ?_
    rintro e w2 ⟨rfl, hww⟩
    have hww := hww.symm
    subst hww
    rw [if_neg hbig2]
    go_wp2_with fail
    go_ret
    exact ⟨rfl, unhide HB⟩
  have hl3 : ¬ ((l : Int) - (m : Int) < 0) := by omega
  go_enter Try.func12, Try.ntmps12
  go_wp2_with fail
  refine (sgW ao n cap 1048576 _ (Nat.le_refl _) (by omega)).mono ?_
  rintro e w1 ⟨rfl, hww⟩
  have hww := hww.symm
  subst hww
  rw [if_pos hbig, show (((1048576 : Nat) : Int) - (n : Int)) = (l : Int) from hl]
  go_wp2_with fail
  refine (sgE bo m cap' l _ (by omega) (by omega)).mono ?_
  rintro e w2 ⟨rfl, hww⟩
  have hww := hww.symm
  subst hww
  rw [if_pos hbig2]
  go_wp2_with fail
  refine (c62 xs ao n cap _ (unhide HN) (by omega) (unhide HA)).mono ?_
  rintro e w3 ⟨rfl, hx, hb⟩
  replace HB := hide (below_tr (unhide HB) hb)
  replace HA := hide ((unhide HA).bel hb)
  replace HC := hide ((unhide HC).bel hb)
  have HT1 := hide (hx.rd (unhide HN))
  clear hb hx
  go_wp2_with fail
  refine (c69 ys bo m cap' _ (unhide HN2) (by omega) (unhide HC)).mono ?_
  rintro e w4 ⟨rfl, hx, hb⟩
  replace HB := hide (below_tr (unhide HB) hb)
  replace HA := hide ((unhide HA).bel hb)
  replace HC := hide ((unhide HC).bel hb)
  replace HT1 := hide ((unhide HT1).bel hb)
  have HT2 := hide (hx.rd (unhide HN2))
  clear hb hx
  go_wp2_with fail
  refine (c59 xs ys _ _ n _ m _ _ (unhide HN) (by omega) (unhide HN2) (Nat.le_refl _) (by omega) (unhide HT1) (unhide HT2)).mono ?_
  rintro e w5 ⟨rfl, hb⟩
  generalize hqq : watAll xs ys = vv at *
  have HQQ := hide hqq
  clear hqq
  replace HB := hide (below_tr (unhide HB) hb)
  replace HA := hide ((unhide HA).bel hb)
  replace HC := hide ((unhide HC).bel hb)
  clear HT1 HT2
  clear hb
  go_wp2_with fail
  refine (c62 xs ao n cap _ (unhide HN) (by omega) (unhide HA)).mono ?_
  rintro e w6 ⟨rfl, hx, hb⟩
  replace HB := hide (below_tr (unhide HB) hb)
  replace HA := hide ((unhide HA).bel hb)
  replace HC := hide ((unhide HC).bel hb)
  have HX := hide (hx.rd (unhide HN))
  clear hb hx
  go_wp2_with fail
  refine (c69 ys bo m cap' _ (unhide HN2) (by omega) (unhide HC)).mono ?_
  rintro e w7 ⟨rfl, hx, hb⟩
  replace HB := hide (below_tr (unhide HB) hb)
  replace HA := hide ((unhide HA).bel hb)
  replace HC := hide ((unhide HC).bel hb)
  replace HX := hide ((unhide HX).bel hb)
  have HY := hide (hx.rd (unhide HN2))
  clear hb hx
  go_wp2_with fail
  refine (c58 xs ys _ _ n _ m _ _ (unhide HN) (by omega) (unhide HN2) (Nat.le_refl _) (by omega) (unhide HX) (unhide HY)).mono ?_
  rintro e w8 ⟨rfl, hb⟩
  rw [unhide HQQ]
  replace HB := hide (below_tr (unhide HB) hb)
  replace HA := hide ((unhide HA).bel hb)
  replace HC := hide ((unhide HC).bel hb)
  replace HX := hide ((unhide HX).bel hb)
  replace HY := hide ((unhide HY).bel hb)
  clear hb
  go_wp2_with fail
  refine (c62 xs ao n cap _ (unhide HN) (by omega) (unhide HA)).mono ?_
  rintro e w9 ⟨rfl, hx, hb⟩
  replace HB := hide (below_tr (unhide HB) hb)
  replace HA := hide ((unhide HA).bel hb)
  replace HC := hide ((unhide HC).bel hb)
  replace HX := hide ((unhide HX).bel hb)
  replace HY := hide ((unhide HY).bel hb)
  have HT3 := hide (hx.rd (unhide HN))
  clear hb hx
  go_wp2_with fail
  refine (sameW xs _ _ _ _ _ _ (unhide HN) (by omega) (unhide HX) (unhide HT3)).mono ?_
  rintro e w10 ⟨rfl, hb⟩
  replace HB := hide (below_tr (unhide HB) hb)
  replace HA := hide ((unhide HA).bel hb)
  replace HC := hide ((unhide HC).bel hb)
  replace HY := hide ((unhide HY).bel hb)
  clear HT3 HX
  clear hb
  go_wp2_with fail
  refine (c69 ys bo m cap' _ (unhide HN2) (by omega) (unhide HC)).mono ?_
  rintro e w11 ⟨rfl, hx, hb⟩
  replace HB := hide (below_tr (unhide HB) hb)
  replace HA := hide ((unhide HA).bel hb)
  replace HC := hide ((unhide HC).bel hb)
  replace HY := hide ((unhide HY).bel hb)
  have HT4 := hide (hx.rd (unhide HN2))
  clear hb hx
  go_wp2_with fail
  refine (sameE ys _ _ _ _ _ _ (unhide HN2) (by omega) (unhide HY) (unhide HT4)).mono ?_
  rintro e w12 ⟨rfl, hb⟩
  replace HB := hide (below_tr (unhide HB) hb)
  replace HA := hide ((unhide HA).bel hb)
  replace HC := hide ((unhide HC).bel hb)
  clear HT4 HY
  clear hb
  go_wp2_with fail
  go_ret
  exact ⟨rfl, unhide HB⟩
end Go.Proofs.Ytdpkdcdieajkbaa
