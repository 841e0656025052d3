/-
  The walk of the law FnExactHedProof: at every argument it answers true, and nothing that was there is written.
-/
import Derived.Test.YtimaidcjccakeaaLawsha
namespace Go.Proofs.Ytimaidcjccakeaa
open Go.RowKit
set_option linter.unusedVariables false
set_option maxRecDepth 100000

set_option maxHeartbeats 4000000 in
theorem law21 (xs : List Tm.Ent) (i : Int) (ao : Option Addr) (n cap : Nat) (w : World) (hn : xs.length = n) (hcap : n ≤ cap) (hmx : cap ≤ maxLen) (hr : ERow w ao xs) :
    Calls Try.prog 21 #[.slice ao n cap, .int .i64 i] w (Holds w) := by
  unfold maxLen at hmx
  by_cases hbig : n ≤ 1048576
  case neg =>
    go_enter Try.func21, Try.ntmps21
    go_wp2_with fail
    refine (c101 ao n cap _ (by omega)).mono ?_
    rintro e w1 ⟨rfl, rfl⟩
    rw [if_neg hbig]
    go_wp2_with fail
    go_ret
    exact ⟨rfl, Below.refl _ _⟩
  have HA := hide hr
  have HN := hide hn
  skip
  clear hr hn
  go_enter Try.func21, Try.ntmps21
  go_wp2_with fail
  refine (c101 ao n cap _ (by omega)).mono ?_
  rintro e w0 ⟨rfl, hw0⟩
  have hw0 := hw0.symm
  subst hw0
  rw [if_pos hbig]
  have hnn : ¬ (1048576 - (n : Int) < 0) := by omega
  have HB0 := hide (Below.refl w.heap.size w)
  have hlen : (hedProof xs i).length ≤ 1048576 := by have := HN.out; have h2 := hedProof_len xs i; omega
  generalize hres : hedProof xs i = ys at *
  have HRES := hide hres
  clear hres
  go_wp2_with fail
  refine (c103 xs ao n cap _ HN.out (by omega) ((unhide HA).bel (unhide HB0))).mono ?_
  rintro e w1 ⟨rfl, hx1, hb1⟩
  have HT1 := hide (hx1.rd HN.out)
  have HB1 := hide (below_tr (unhide HB0) hb1)
  clear hb1 HB0  hx1
  go_wp2_with fail
  refine (c81 xs i _ n n _ HN.out (by omega) (unhide HT1)).mono ?_
  rintro e w2 ⟨v0, rfl, ho0, hb2⟩
  rw [unhide HRES] at ho0
  obtain ⟨av, capv, rfl, hcv, hrv, hbv⟩ := ho0.row
  have HV2 := hide hrv
  have HVb := hide (fun a ha => (hbv a ha).2)
  have HB2 := hide (below_tr (unhide HB1) hb2)
  have hs02 := (unhide HB2).size
  clear hb2 HB1 HT1 ho0 hrv hbv
  go_wp2_with fail
  refine (c103 xs ao n cap _ HN.out (by omega) ((unhide HA).bel (unhide HB2))).mono ?_
  rintro e w3 ⟨rfl, hx3, hb3⟩
  have HX3 := hide hx3
  have hs23 := own_ltE hx3
  have HB3 := hide (below_tr (unhide HB2) hb3)
  have HV3 := hide ((unhide HV2).bel hb3)
  clear hb3 HB2 HV2 hx3
  go_wp2_with fail
  refine (c80 xs i _ n n _ HN.out (by omega) ((unhide HX3).rd HN.out)).mono ?_
  rintro e w4 ⟨v1, rfl, ho1, hb4⟩
  rw [unhide HRES] at ho1
  obtain ⟨ag, capg, rfl, hcg, hrg, hbg⟩ := ho1.row
  have HG4 := hide ho1
  have HGb := hide (fun a ha => (hbg a ha).1)
  have HB4 := hide (below_tr (unhide HB3) hb4)
  have HV4 := hide ((unhide HV3).bel hb4)
  have HX4 := hide ((unhide HX3).bel hb4)
  clear hb4 HB3 HV3 HX3 ho1 hrg hbg
  go_wp2_with fail
  refine (sameI ys _ _ _ _ _ _ rfl (by omega) ((unhide HG4).rd rfl) (unhide HV4)).mono ?_
  rintro e w5 ⟨rfl, hb5⟩
  have HB5 := hide (below_tr (unhide HB4) hb5)
  have HV5 := hide ((unhide HV4).bel hb5)
  have HX5 := hide ((unhide HX4).bel hb5)
  have HG5 := hide ((unhide HG4).bel hb5)
  clear hb5 HB4 HV4 HX4 HG4 
  go_wp2_with fail
  refine (c103 xs ao n cap _ HN.out (by omega) ((unhide HA).bel (unhide HB5))).mono ?_
  rintro e w6 ⟨rfl, hx6, hb6⟩
  have HT6 := hide (hx6.rd HN.out)
  have HB6 := hide (below_tr (unhide HB5) hb6)
  have HV6 := hide ((unhide HV5).bel hb6)
  have HX6 := hide ((unhide HX5).bel hb6)
  have HG6 := hide ((unhide HG5).bel hb6)
  clear hb6 HB5 HV5 HX5 HG5 hx6
  go_wp2_with fail
  refine (sameE xs _ _ _ _ _ _ HN.out (by omega) ((unhide HX6).rd HN.out) (unhide HT6)).mono ?_
  rintro e w7 ⟨rfl, hb7⟩
  have HB7 := hide (below_tr (unhide HB6) hb7)
  have HV7 := hide ((unhide HV6).bel hb7)
  have HX7 := hide ((unhide HX6).bel hb7)
  have HG7 := hide ((unhide HG6).bel hb7)
  clear hb7 HB6 HV6 HX6 HG6 HT6
  go_wp2_with fail
  refine (markE xs _ _ _ _ _ HN.out (by omega) (unhide HX7)).mono ?_
  rintro e w8 ⟨rfl, -, hg8⟩
  have HV8 := hide ((unhide HV7).kpt hg8 (by intro a ha; have := unhide HVb a ha; simp only [Value.ownBlock, ne_eq, Option.some.injEq]; omega))
  have HG8 := hide ((unhide HG7).kpt hg8 (by intro b hb; obtain ⟨a, ha, rfl⟩ := slice_block hb; have := unhide HGb a ha; simp only [Value.ownBlock, ne_eq, Option.some.injEq]; omega))
  have HB8 := hide (grown_below (unhide HB7) hg8 (by intro k hk; simp only [Value.ownBlock, Option.some.injEq] at hk; omega))
  clear hg8 HV7 HG7 HB7 HX7
  have hk8 : ¬ (4 * (n : Int) + 1 < 0) := by omega
  go_wp2_with fail
  refine (sameI ys _ _ _ _ _ _ rfl (by omega) ((unhide HG8).rd rfl) (unhide HV8)).mono ?_
  rintro e w9 ⟨rfl, hb9⟩
  have HB9 := hide (below_tr (unhide HB8) hb9)
  have HV9 := hide ((unhide HV8).bel hb9)
  have HG9 := hide ((unhide HG8).bel hb9)
  clear hb9 HB8 HV8 HG8 
  go_wp2_with fail
  refine (markI ys _ _ _ _ _ rfl (by omega) (unhide HG9)).mono ?_
  rintro e w10 ⟨rfl, hh10, hg10⟩
  have HV10 := hide ((unhide HV9).kpt hg10 (by intro a ha e; obtain ⟨a', ha', e'⟩ := slice_block e.symm; have h1 := unhide HVb a ha; have h2 := unhide HGb a' ha'; omega))
  have HM10 := hide hh10
  have HB10 := hide (grown_below (unhide HB9) hg10 (by intro k hk; obtain ⟨a', ha', e'⟩ := slice_block hk; have h2 := unhide HGb a' ha'; omega))
  clear hg10 hh10 HV9 HG9 HB9
  have hk10 : ¬ ((ys.length : Int) + 1 < 0) := by omega
  go_wp2_with fail
  refine (heldI ys _ _ _ _ rfl (by omega) (unhide HM10)).mono ?_
  rintro e w' ⟨rfl, rfl⟩
  go_wp2_with fail
  refine (c103 xs ao n cap _ HN.out (by omega) ((unhide HA).bel (unhide HB10))).mono ?_
  rintro e w11 ⟨rfl, hx11, hb11⟩
  have HT11 := hide (hx11.rd HN.out)
  have HB11 := hide (below_tr (unhide HB10) hb11)
  have HV11 := hide ((unhide HV10).bel hb11)
  have HM11 := hide ((unhide HM10).bel hb11)
  clear hb11 HB10 HV10 HM10 hx11
  go_wp2_with fail
  refine (c80 xs i _ n n _ HN.out (by omega) (unhide HT11)).mono ?_
  rintro e w12 ⟨v2, rfl, ho2, hb12⟩
  rw [unhide HRES] at ho2
  obtain ⟨ah, caph, rfl, hch, hrh, hbh⟩ := ho2.row
  have HH12 := hide hrh
  have HB12 := hide (below_tr (unhide HB11) hb12)
  have HV12 := hide ((unhide HV11).bel hb12)
  have HM12 := hide ((unhide HM11).bel hb12)
  clear hb12 HB11 HV11 HM11 ho2 hrh hbh HT11
  go_wp2_with fail
  refine (sameI ys _ _ _ _ _ _ rfl (by omega) (unhide HH12) (unhide HV12)).mono ?_
  rintro e w13 ⟨rfl, hb13⟩
  have HB13 := hide (below_tr (unhide HB12) hb13)
  have HM13 := hide ((unhide HM12).bel hb13)
  clear hb13 HB12 HM12 HH12 HV12
  go_wp2_with fail
  refine (heldI ys _ _ _ _ rfl (by omega) (unhide HM13)).mono ?_
  rintro e w' ⟨rfl, rfl⟩
  go_wp2_with fail
  go_ret
  exact ⟨rfl, unhide HB13⟩
end Go.Proofs.Ytimaidcjccakeaa
