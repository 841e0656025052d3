/-
  The walks of the laws FnExactConProof and FnExactConCheck: at every argument each answers true, and nothing that was there is written.
-/
import Derived.Test.YtdbnimgbmjeplaaLawsM
import Derived.Test.YtdbnimgbmjeplaaLawsH
namespace Go.Proofs.Ytdbnimgbmjeplaa
open Go.RowKit
set_option linter.unusedVariables false

set_option maxHeartbeats 3000000 in
theorem law8 (zs : List Int) (i : Int) (ao : Option Addr) (n cap : Nat) (w : World) (hn : zs.length = n) (hcap : n ≤ cap) (hmx : cap ≤ maxLen) (hr : Row w ao zs) :
    Calls Try.prog 8 #[.slice ao n cap, .int .i64 i] w (Holds w) := by
  unfold maxLen at hmx
  by_cases hbig : (1048576 : Int) < (n : Int)
  · go_enter Try.func8, Try.ntmps8
    go_wp2_with fail
    go_ret
    exact ⟨rfl, Below.refl _ _⟩
  have HLT := hide (fun hz => hr.lt hz)
  have HR := hide hr
  have HN := hide hn
  have hl6 := conProof_len (zs := zs) (m := i)
  clear hr hn
  go_enter Try.func8, Try.ntmps8
  go_wp2_with fail
  refine (copy_any zs ao n cap _ HN.out (by omega) (unhide HR)).mono ?_
  rintro e w1 ⟨rfl, hr1, hb1⟩
  have HR1 := hide hr1
  have HA1 := hide ((unhide HR).below hb1 (Nat.le_refl _))
  have HB1 := hide hb1
  clear hr1 hb1
  go_wp2_with fail
  refine (c22 zs i _ n n _ HN.out (Nat.le_refl _) (by omega) (unhide HR1)).mono ?_
  rintro e w2 ⟨v0, rfl, ho0, hb2⟩
  obtain ⟨a0, cap0, rfl, hcap0, hr0, hbl0⟩ := told_all ho0
  have H0 := hide hr0
  have HL0 := hide (fun a ha => (hbl0 a ha).2)
  have HA2 := hide ((unhide HA1).below hb2 (Nat.le_refl _))
  have HB2 := hide (below_then (unhide HB1) hb2)
  clear ho0 hr0 hbl0 hb2 HR1 HA1 HB1
  go_wp2_with fail
  refine (c26 zs ao n cap _ HN.out (by omega) (unhide HA2)).mono ?_
  rintro e w3 ⟨rfl, hox, hb3⟩
  have HX := hide hox
  have H03 := hide ((unhide H0).below hb3 (Nat.le_refl _))
  have HA3 := hide ((unhide HA2).below hb3 (Nat.le_refl _))
  have HB3 := hide (below_then (unhide HB2) hb3)
  have hs23 : w2.heap.size < w3.heap.size := by
    have h1 := (unhide HX).2.lt w2.heap.size rfl
    exact h1.2
  have hs02 : w.heap.size ≤ w2.heap.size := (unhide HB2).size
  clear hox hb3 H0 HA2 HB2
  go_wp2_with fail
  refine (c21 zs i _ n n _ HN.out (Nat.le_refl _) (by omega) (by
    obtain ⟨q1, q2, q3, q4, q5, q6⟩ := (unhide HX).row
    simp only [Value.slice.injEq] at q3
    rw [q3.1]; exact q5)).mono ?_
  rintro e w4 ⟨vg, rfl, hog, hb4⟩
  obtain ⟨ag, capg, rfl, hcapg, hrg, hblg⟩ := told_all hog
  have HG := hide hog
  have HLG := hide hblg
  have HGr := hide hrg
  have HX4 := hide ((unhide HX).below hb4)
  have H04 := hide ((unhide H03).below hb4 (Nat.le_refl _))
  have HA4 := hide ((unhide HA3).below hb4 (Nat.le_refl _))
  have HB4 := hide (below_then (unhide HB3) hb4)
  clear hog hrg hblg hb4 HX H03 HA3 HB3
  generalize hps : Tm.conProof zs i = ps at *
  have HPS := hide hps
  clear hps
  go_wp2_with fail
  refine (c27 ps ps _ _ _ _ _ _ _ rfl rfl (by omega) (by omega) (unhide HGr) (unhide H04)).mono ?_
  rintro e w4' ⟨rfl, q, rfl⟩
  rw [decide_self]
  have hbq : Below w4.heap.size w4 (w4.drewN q) := below_drewN (Below.refl _ _) q
  have HA4' := hide ((unhide HA4).below hbq (Nat.le_refl _))
  go_wp2_with fail
  refine (copy_any zs ao n cap _ HN.out (by omega) (unhide HA4')).mono ?_
  rintro e w5 ⟨rfl, hr5, hb5⟩
  have hb45 : Below w4.heap.size w4 w5 := below_then hbq hb5
  have HX5 := hide ((unhide HX4).below hb45)
  have HG5 := hide ((unhide HG).below hb45)
  have H05 := hide ((unhide H04).below hb45 (Nat.le_refl _))
  have HA5 := hide ((unhide HA4).below hb45 (Nat.le_refl _))
  have HB5 := hide (below_then (unhide HB4) hb45)
  have HR5 := hide hr5
  clear hr5 hb5 hbq hb45 HA4' HX4 HG H04 HA4 HB4 HGr
  go_wp2_with fail
  refine (c27 zs zs _ _ n n n n _ HN.out HN.out (by omega) (by omega) (by
    obtain ⟨q1, q2, q3, q4, q5, q6⟩ := (unhide HX5).row
    simp only [Value.slice.injEq] at q3
    rw [q3.1]; exact q5) (unhide HR5)).mono ?_
  rintro e w5' ⟨rfl, q', rfl⟩
  rw [decide_self]
  have hbq : Below w5.heap.size w5 (w5.drewN q') := below_drewN (Below.refl _ _) q'
  have HX6 := hide ((unhide HX5).below hbq)
  have HG6 := hide ((unhide HG5).below hbq)
  have H06 := hide ((unhide H05).below hbq (Nat.le_refl _))
  have HA6 := hide ((unhide HA5).below hbq (Nat.le_refl _))
  have HB6 := hide (below_then (unhide HB5) hbq)
  clear hbq HX5 HG5 H05 HA5 HB5 HR5
  generalize w5.drewN q' = w6 at *
  go_wp2_with fail
  refine (c28 zs w2.heap.size _ _ (by have := unhide HN; omega) (unhide HX6)).mono ?_
  rintro e w7 ⟨rfl, hox7, hg7⟩
  rw [unhide HN]
  have hg7' : w6.grownBy w7 (some w2.heap.size) := hg7
  have HA7 := hide ((unhide HA6).keptN hg7' (fun hz a ha e => by have := unhide HLT hz a ha; simp only [Option.some.injEq] at e; omega))
  have H07 := hide ((unhide H06).keptN hg7' (fun hz a ha e => by have := unhide HL0 a ha; simp only [Option.some.injEq] at e; omega))
  have HG7 : Hid (Own w7 w3.heap.size (.slice ag ps.length capg) ps) := by
    refine ⟨(unhide HG6).1, (unhide HG6).2.kept hg7' (Or.inr ?_)⟩
    intro e
    obtain ⟨a, ha, hab⟩ := own_block_of e
    have := (unhide HLG a ha).1
    omega
  have HB7 := hide ((unhide HB6).grown hg7' (unhide HB6).size (fun k hk => by cases hk; exact hs02))
  have HGr7 : Hid (Row w7 ag ps) := by
    obtain ⟨q1, q2, q3, q4, q5, q6⟩ := (unhide HG7).row
    simp only [Value.slice.injEq] at q3
    rw [q3.1]; exact q5
  clear hox7 hg7 hg7' HX6 HG6 H06 HA6 HB6
  go_wp2_with fail
  refine (c27 ps ps _ _ _ _ _ _ _ rfl rfl (by omega) (by omega) (unhide HGr7) (unhide H07)).mono ?_
  rintro e w8 ⟨rfl, q8, rfl⟩
  rw [decide_self]
  have hbq : Below w7.heap.size w7 (w7.drewN q8) := below_drewN (Below.refl _ _) q8
  have HG8 := hide ((unhide HG7).below hbq)
  have H08 := hide ((unhide H07).below hbq (Nat.le_refl _))
  have HA8 := hide ((unhide HA7).below hbq (Nat.le_refl _))
  have HB8 := hide (below_then (unhide HB7) hbq)
  clear hbq HG7 H07 HA7 HB7 HGr7
  generalize w7.drewN q8 = w8 at *
  go_wp2_with fail
  refine (c28 ps w3.heap.size _ _ (by omega) (unhide HG8)).mono ?_
  rintro e w9 ⟨rfl, hog9, hg9⟩
  have hrow9 : ∀ b, (Value.slice ag ps.length capg).ownBlock = some b → w3.heap.size ≤ b := by
    intro b e
    obtain ⟨a, ha, hab⟩ := own_block_of e
    have := (unhide HLG a ha).1
    omega
  have HA9 := hide ((unhide HA8).keptN hg9 (fun hz a ha e => by have := unhide HLT hz a ha; have := hrow9 _ e.symm; have := hs02; omega))
  have H09 := hide ((unhide H08).keptN hg9 (fun hz a ha e => by have := unhide HL0 a ha; have := hrow9 _ e.symm; omega))
  have HB9 := hide ((unhide HB8).grown hg9 (unhide HB8).size (fun k hk => by have := hrow9 k hk; omega))
  have HGr9 : Hid (Row w9 ag (marked ps ps.length)) := by
    obtain ⟨q1, q2, q3, q4, q5, q6⟩ := hog9.row
    rw [marked_len _ _ (Nat.le_refl _)] at q3
    simp only [Value.slice.injEq] at q3
    rw [q3.1]; exact q5
  clear hog9 hg9 hrow9 HG8 H08 HA8 HB8
  go_wp2_with fail
  refine (c29 ps _ _ _ _ rfl (by omega) (unhide HGr9)).mono ?_
  rintro e w9' ⟨rfl, rfl⟩
  go_wp2_with fail
  refine (copy_any zs ao n cap _ HN.out (by omega) (unhide HA9)).mono ?_
  rintro e w10 ⟨rfl, hr10, hb10⟩
  have HR10 := hide hr10
  have H010 := hide ((unhide H09).below hb10 (Nat.le_refl _))
  have HG10 := hide ((unhide HGr9).below hb10 (Nat.le_refl _))
  have HB10 := hide (below_then (unhide HB9) hb10)
  clear hr10 hb10 H09 HGr9 HB9 HA9
  go_wp2_with fail
  refine (c21 zs i _ n n _ HN.out (Nat.le_refl _) (by omega) (unhide HR10)).mono ?_
  rintro e w11 ⟨vh, rfl, hoh, hb11⟩
  rw [unhide HPS] at hoh
  obtain ⟨ah, caph, rfl, hcaph, hrh, -⟩ := told_all hoh
  have HH := hide hrh
  have H011 := hide ((unhide H010).below hb11 (Nat.le_refl _))
  have HG11 := hide ((unhide HG10).below hb11 (Nat.le_refl _))
  have HB11 := hide (below_then (unhide HB10) hb11)
  clear hoh hrh hb11 H010 HG10 HB10
  go_wp2_with fail
  refine (c27 ps ps _ _ _ _ _ _ _ rfl rfl (by omega) (by omega) (unhide HH) (unhide H011)).mono ?_
  rintro e w12 ⟨rfl, q12, rfl⟩
  rw [decide_self]
  have HG12 := hide ((unhide HG11).drewN q12)
  have HB12 := hide (below_drewN (unhide HB11) q12)
  generalize w11.drewN q12 = w12 at *
  go_wp2_with fail
  refine (c29 ps _ _ _ _ rfl (by omega) (unhide HG12)).mono ?_
  rintro e w13 ⟨rfl, rfl⟩
  go_wp2_with fail
  go_ret
  exact ⟨rfl, unhide HB12⟩

set_option maxHeartbeats 2000000 in
theorem law9 (ps : List Int) (root n i leaf : Int) (ao : Option Addr) (m cap : Nat) (w : World) (hm : ps.length = m) (hcap : m ≤ cap) (hmx : cap ≤ maxLen) (hr : Row w ao ps) :
    Calls Try.prog 9 #[.int .i64 root, .int .i64 n, .int .i64 i, .int .i64 leaf, .slice ao m cap] w (Holds w) := by
  unfold maxLen at hmx
  have HR := hide hr
  have HM := hide hm
  clear hr hm
  by_cases hbig : (1048576 : Int) < (m : Int)
  · go_enter Try.func9, Try.ntmps9
    go_wp2_with fail
    go_ret
    exact ⟨rfl, Below.refl _ _⟩
  go_enter Try.func9, Try.ntmps9
  go_wp2_with fail
  refine (copy_any ps ao m cap _ (unhide HM) (by omega) (unhide HR)).mono ?_
  rintro e w1 ⟨rfl, hr1, hb1⟩
  have HR1 := hide hr1
  have HRa := hide ((unhide HR).below hb1 (Nat.le_refl _))
  have HB1 := hide hb1
  clear hr1 hb1
  go_wp2_with fail
  refine (c25 ps root n i leaf _ m m _ (unhide HM) (Nat.le_refl _) (by omega) (unhide HR1)).mono ?_
  rintro e w1' ⟨rfl, q0, rfl⟩
  have HRa := hide ((unhide HRa).drewN q0)
  have HB1 := hide (below_drewN (unhide HB1) q0)
  generalize w1.drewN q0 = w1' at *
  go_wp2_with fail
  refine (copy_any ps ao m cap _ (unhide HM) (by omega) (unhide HRa)).mono ?_
  rintro e w2 ⟨rfl, hr2, hb2⟩
  have HR2 := hide hr2
  have HRb := hide ((unhide HRa).below hb2 (Nat.le_refl _))
  have HB2 := hide (below_then (unhide HB1) hb2)
  clear hr2 hb2
  go_wp2_with fail
  refine (c23 ps root n i leaf _ m m _ (unhide HM) (Nat.le_refl _) (by omega) (unhide HR2)).mono ?_
  rintro e w3 ⟨rfl, hb3⟩
  have HRc := hide ((unhide HRb).below hb3 (Nat.le_refl _))
  have HR3 := hide ((unhide HR2).below hb3 (Nat.le_refl _))
  have HB3 := hide (below_then (unhide HB2) hb3)
  clear hb3
  generalize Tm.conCheck root n i leaf ps = o
  go_wp2_with fail
  refine (copy_any ps ao m cap _ (unhide HM) (by omega) (unhide HRc)).mono ?_
  rintro e w4 ⟨rfl, hr4, hb4⟩
  have HR4 := hide hr4
  have HR5 := hide ((unhide HR3).below hb4 (Nat.le_refl _))
  have HB4 := hide (below_then (unhide HB3) hb4)
  clear hr4 hb4
  go_wp2_with fail
  refine (c27 ps ps _ _ m m m m _ (unhide HM) (unhide HM) (by omega) (by omega) (unhide HR5) (unhide HR4)).mono ?_
  rintro e w5 ⟨rfl, q, rfl⟩
  rw [decide_self]
  have HB5 := hide (below_drewN (unhide HB4) q)
  go_wp2_with fail
  go_ret
  exact ⟨rfl, unhide HB5⟩
end Go.Proofs.Ytdbnimgbmjeplaa
