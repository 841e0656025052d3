/-
  The exact law of MktNew.
-/
import Derived.Test.YtnppgfnlfdnkpaaMnews
import Derived.Test.YtnppgfnlfdnkpaaDraw
namespace Go.Proofs.Ytnppgfnlfdnkpaa
open Go.RowKit
set_option linter.unusedVariables false
set_option maxRecDepth 100000
theorem newH_small (p : List Int) (h : p.length ≤ 1048576) : Small (newH p) := by
  unfold newH
  split
  · exact ⟨by simp, h, by simp, by simp, by simp⟩
  · exact ⟨by simp, by simp, by simp, by simp, by simp⟩
set_option maxHeartbeats 3200000 in
theorem law10 (xs : List Int) (ao : Option Addr) (n cap : Nat) (w : World) (hn : xs.length = n) (hc : n ≤ cap) (hm : cap ≤ maxLen) (hr : Row w ao xs) : Calls Try.prog 10 #[.slice ao n cap] w (Holds w) := by
  by_cases hbg : (1048576 : Int) < (n : Int)
  · go_enter Try.func10, Try.ntmps10
    go_wp2_with fail
    go_ret
    exact ⟨rfl, Below.refl _ _⟩
  subst hn
  have hbig : xs.length ≤ 1048576 := by omega
  have HR := hide hr
  obtain ⟨h, hh⟩ : ∃ h, h = newH xs := ⟨_, rfl⟩
  have HS : Hid (Small h) := by rw [hh]; exact newH_small xs hbig
  have HH := hide hh
  clear hr hh hc hm
  have n5 : ¬ (((hk5 h : Nat) : Int) < 0) := by omega
  have nm : ¬ ((xs.length : Int) + 1 < 0) := by omega
  go_enter Try.func10, Try.ntmps10
  go_wp2_with fail
  refine (c52 xs ao _ cap _ rfl hbig (unhide HR)).mono ?_
  rintro e w1 ⟨rfl, ho1, hb1⟩
  have HP1 := hide ho1
  have HB1 := hide hb1
  clear ho1 hb1
  go_wp2_with fail
  have S := c21 xs (some ⟨w.heap.size, 0, none⟩) xs.length xs.length w1 rfl hbig (by simp) (own_rowI (unhide HP1))
  rw [← unhide HH] at S
  refine S.mono ?_
  rintro e w2 ⟨qs, rfl, ho2, hb2⟩
  have HXA := hide (box_new w2 (hCs qs h) 28 (hCs_one _ _))
  have HMA := hide (ho2.rd.bel (below_a (.cells (hCs qs h).toArray 28)))
  have HBA := hide (below_tr (below_tr (unhide HB1) hb2) (below_a (.cells (hCs qs h).toArray 28)))
  clear ho2 hb2 HP1 HB1 S
  go_wp2_with fail
  refine (c52 xs ao _ cap _ rfl hbig ((unhide HR).bel (unhide HBA))).mono ?_
  rintro e w3 ⟨rfl, ho3, hb3⟩
  have hA3 : (w2.alloc (.cells (hCs qs h).toArray 28)).heap.size < w3.heap.size := (ho3.2.lt _ rfl).2
  have hA2 : w2.heap.size < (w2.alloc (.cells (hCs qs h).toArray 28)).heap.size := (unhide HXA).lt
  have HP3 := hide ho3
  have HB3 := hide hb3
  clear ho3 hb3
  obtain ⟨A, hA⟩ : ∃ A, A = w2.alloc (.cells (hCs qs h).toArray 28) := ⟨_, rfl⟩
  have hAs : A.heap.size = w2.heap.size + 1 := by rw [hA, World.size_alloc]
  rw [← hA] at HP3 HB3 hA3 hA2
  have HXA : Hid (Box A w2.heap.size (hCs qs h)) := by rw [hA]; exact HXA
  have HMA : Hid (HRow A qs h) := by rw [hA]; exact HMA
  have HBA : Hid (Below w.heap.size w A) := by rw [hA]; exact HBA
  rw [hAs] at HP3
  clear hA
  go_wp2_with fail
  have S := c19 xs (some ⟨w2.heap.size + 1, 0, none⟩) xs.length xs.length w3 rfl hbig (by simp) (own_rowI (unhide HP3))
  rw [← unhide HH] at S
  refine S.mono ?_
  rintro e w4 ⟨qm, rfl, ho4, hb4⟩
  have HC := hide (below_tr hb4 (below_a (.cells (hCs qm h).toArray 28)))
  have HBk := hide (below_tr (unhide HB3) (unhide HC))
  have HXk := hide ((unhide HXA).below (unhide HBk))
  have HYk := hide (box_new w4 (hCs qm h) 28 (hCs_one _ _))
  have HOk := hide (ho4.bel (below_a (.cells (hCs qm h).toArray 28)))
  have HNI := hide (ho4.notIn (Nat.le_refl _))
  have HPk := hide ((unhide HP3).bel (unhide HC))
  have h43 : w3.heap.size ≤ w4.heap.size := hb4.size
  clear ho4 hb4 HP3 S HC HB3
  have x0 := (unhide HXk).cell 0 rfl
  have x1 := (unhide HXk).cell 1 rfl
  have x2 := (unhide HXk).cell 2 rfl
  have x3 := (unhide HXk).cell 3 rfl
  have x4 := (unhide HXk).cell 4 rfl
  have x5 := (unhide HXk).cell 5 rfl
  have y0 := (unhide HYk).cell 0 rfl
  have y1 := (unhide HYk).cell 1 rfl
  have y2 := (unhide HYk).cell 2 rfl
  have y3 := (unhide HYk).cell 3 rfl
  have y4 := (unhide HYk).cell 4 rfl
  have y5 := (unhide HYk).cell 5 rfl
  go_wp2_with fail
  refine (sameH h qm qs _ (unhide HS) (unhide HOk).rd ((unhide HMA).bel (unhide HBk))).mono ?_
  rintro e w5 ⟨rfl, hb5⟩
  have HB5 := hide (below_tr (unhide HBk) hb5)
  have HX5 := hide ((unhide HXA).below (unhide HB5))
  have HY5 := hide ((unhide HYk).below hb5)
  have HO5 := hide ((unhide HOk).bel hb5)
  have HP5 := hide ((unhide HPk).bel hb5)
  clear hb5 HBk HXk HYk HOk HPk
  clear x0 x1 x2 x3 x4 x5 y0 y1 y2 y3 y4 y5
  have x0 := (unhide HX5).cell 0 rfl
  have x1 := (unhide HX5).cell 1 rfl
  have x2 := (unhide HX5).cell 2 rfl
  have x3 := (unhide HX5).cell 3 rfl
  have x4 := (unhide HX5).cell 4 rfl
  have x5 := (unhide HX5).cell 5 rfl
  have y0 := (unhide HY5).cell 0 rfl
  have y1 := (unhide HY5).cell 1 rfl
  have y2 := (unhide HY5).cell 2 rfl
  have y3 := (unhide HY5).cell 3 rfl
  have y4 := (unhide HY5).cell 4 rfl
  have y5 := (unhide HY5).cell 5 rfl
  go_wp2_with fail
  refine (c52 xs ao _ cap _ rfl hbig ((unhide HR).bel (below_tr (unhide HBA) (unhide HB5)))).mono ?_
  rintro e w6 ⟨rfl, ho6, hb6⟩
  have HQ6 := hide ho6
  clear ho6
  have HB6 := hide (below_tr (unhide HB5) hb6)
  have HX6 := hide ((unhide HXA).below (unhide HB6))
  have HY6 := hide ((unhide HY5).below hb6)
  have HO6 := hide ((unhide HO5).bel hb6)
  have HP6 := hide ((unhide HP5).bel hb6)
  clear hb6 HB5 HX5 HY5 HO5 HP5
  clear x0 x1 x2 x3 x4 x5 y0 y1 y2 y3 y4 y5
  have x0 := (unhide HX6).cell 0 rfl
  have x1 := (unhide HX6).cell 1 rfl
  have x2 := (unhide HX6).cell 2 rfl
  have x3 := (unhide HX6).cell 3 rfl
  have x4 := (unhide HX6).cell 4 rfl
  have x5 := (unhide HX6).cell 5 rfl
  have y0 := (unhide HY6).cell 0 rfl
  have y1 := (unhide HY6).cell 1 rfl
  have y2 := (unhide HY6).cell 2 rfl
  have y3 := (unhide HY6).cell 3 rfl
  have y4 := (unhide HY6).cell 4 rfl
  have y5 := (unhide HY6).cell 5 rfl
  go_wp2_with fail
  refine (sameI xs _ _ _ _ _ _ rfl hbig (own_rowI (unhide HP6)) (own_rowI (unhide HQ6))).mono ?_
  rintro e w7 ⟨rfl, hb7⟩
  clear HQ6
  have HB7 := hide (below_tr (unhide HB6) hb7)
  have HX7 := hide ((unhide HXA).below (unhide HB7))
  have HY7 := hide ((unhide HY6).below hb7)
  have HO7 := hide ((unhide HO6).bel hb7)
  have HP7 := hide ((unhide HP6).bel hb7)
  clear hb7 HB6 HX6 HY6 HO6 HP6
  clear x0 x1 x2 x3 x4 x5 y0 y1 y2 y3 y4 y5
  have x0 := (unhide HX7).cell 0 rfl
  have x1 := (unhide HX7).cell 1 rfl
  have x2 := (unhide HX7).cell 2 rfl
  have x3 := (unhide HX7).cell 3 rfl
  have x4 := (unhide HX7).cell 4 rfl
  have x5 := (unhide HX7).cell 5 rfl
  have y0 := (unhide HY7).cell 0 rfl
  have y1 := (unhide HY7).cell 1 rfl
  have y2 := (unhide HY7).cell 2 rfl
  have y3 := (unhide HY7).cell 3 rfl
  have y4 := (unhide HY7).cell 4 rfl
  have y5 := (unhide HY7).cell 5 rfl
  go_wp2_with fail
  refine (markI xs _ _ _ _ _ rfl hbig (unhide HP7)).mono ?_
  rintro e w8 ⟨rfl, -, hg8⟩
  have HB8 := hide (grown_below (unhide HB7) hg8 (fun k hk => by simp [Value.ownBlock] at hk; omega))
  have HX8 := hide ((unhide HXA).below (unhide HB8))
  have HY8 := hide (box_kpt (unhide HY7) hg8 (fun e => by simp [Value.ownBlock] at e; omega))
  have HO8 := hide ((unhide HO7).kptB (g := w2.heap.size + 1) hg8 (by omega))
  clear hg8 HB7 HX7 HY7 HO7 HP7
  clear x0 x1 x2 x3 x4 x5 y0 y1 y2 y3 y4 y5
  have x0 := (unhide HX8).cell 0 rfl
  have x1 := (unhide HX8).cell 1 rfl
  have x2 := (unhide HX8).cell 2 rfl
  have x3 := (unhide HX8).cell 3 rfl
  have x4 := (unhide HX8).cell 4 rfl
  have x5 := (unhide HX8).cell 5 rfl
  have y0 := (unhide HY8).cell 0 rfl
  have y1 := (unhide HY8).cell 1 rfl
  have y2 := (unhide HY8).cell 2 rfl
  have y3 := (unhide HY8).cell 3 rfl
  have y4 := (unhide HY8).cell 4 rfl
  have y5 := (unhide HY8).cell 5 rfl
  go_wp2_with fail
  refine (sameH h qm qs _ (unhide HS) (unhide HO8).rd ((unhide HMA).bel (unhide HB8))).mono ?_
  rintro e w9 ⟨rfl, hb9⟩
  have HB9 := hide (below_tr (unhide HB8) hb9)
  have HX9 := hide ((unhide HXA).below (unhide HB9))
  have HY9 := hide ((unhide HY8).below hb9)
  have HO9 := hide ((unhide HO8).bel hb9)
  clear hb9 HB8 HX8 HY8 HO8
  clear x0 x1 x2 x3 x4 x5 y0 y1 y2 y3 y4 y5
  have x0 := (unhide HX9).cell 0 rfl
  have x1 := (unhide HX9).cell 1 rfl
  have x2 := (unhide HX9).cell 2 rfl
  have x3 := (unhide HX9).cell 3 rfl
  have x4 := (unhide HX9).cell 4 rfl
  have x5 := (unhide HX9).cell 5 rfl
  have y0 := (unhide HY9).cell 0 rfl
  have y1 := (unhide HY9).cell 1 rfl
  have y2 := (unhide HY9).cell 2 rfl
  have y3 := (unhide HY9).cell 3 rfl
  have y4 := (unhide HY9).cell 4 rfl
  have y5 := (unhide HY9).cell 5 rfl
  go_wp2_with fail
  refine (markH h qm _ _ (unhide HS) (unhide HO9)).mono ?_
  rintro e w10 ⟨rfl, hh10, hA10, hG10⟩
  have HL10 := hide hh10
  have HB10 := hide (hA10 A (by omega) (unhide HB9))
  have HX10 := hide ((unhide HXA).below (unhide HB10))
  have HY10 := hide (hG10 _ _ (unhide HY9) (unhide HNI))
  clear hh10 hA10 hG10 HB9 HX9 HY9 HO9
  clear x0 x1 x2 x3 x4 x5 y0 y1 y2 y3 y4 y5
  have x0 := (unhide HX10).cell 0 rfl
  have x1 := (unhide HX10).cell 1 rfl
  have x2 := (unhide HX10).cell 2 rfl
  have x3 := (unhide HX10).cell 3 rfl
  have x4 := (unhide HX10).cell 4 rfl
  have x5 := (unhide HX10).cell 5 rfl
  have y0 := (unhide HY10).cell 0 rfl
  have y1 := (unhide HY10).cell 1 rfl
  have y2 := (unhide HY10).cell 2 rfl
  have y3 := (unhide HY10).cell 3 rfl
  have y4 := (unhide HY10).cell 4 rfl
  have y5 := (unhide HY10).cell 5 rfl
  go_wp2_with fail
  refine (heldH h qm _ _ (unhide HS) (unhide HL10)).mono ?_
  rintro e w11 ⟨rfl, hb11⟩
  have HL11 := hide ((unhide HL10).bel hb11)
  have HB11 := hide (below_tr (unhide HB10) hb11)
  have HX11 := hide ((unhide HXA).below (unhide HB11))
  have HY11 := hide ((unhide HY10).below hb11)
  clear hb11 HL10 HB10 HX10 HY10
  clear x0 x1 x2 x3 x4 x5 y0 y1 y2 y3 y4 y5
  have x0 := (unhide HX11).cell 0 rfl
  have x1 := (unhide HX11).cell 1 rfl
  have x2 := (unhide HX11).cell 2 rfl
  have x3 := (unhide HX11).cell 3 rfl
  have x4 := (unhide HX11).cell 4 rfl
  have x5 := (unhide HX11).cell 5 rfl
  have y0 := (unhide HY11).cell 0 rfl
  have y1 := (unhide HY11).cell 1 rfl
  have y2 := (unhide HY11).cell 2 rfl
  have y3 := (unhide HY11).cell 3 rfl
  have y4 := (unhide HY11).cell 4 rfl
  have y5 := (unhide HY11).cell 5 rfl
  go_wp2_with fail
  refine (c52 xs ao _ cap _ rfl hbig ((unhide HR).bel (below_tr (unhide HBA) (unhide HB11)))).mono ?_
  rintro e w12 ⟨rfl, ho12, hb12⟩
  have HP12 := hide ho12
  have HL12 := hide ((unhide HL11).bel hb12)
  have HB12 := hide (below_tr (unhide HB11) hb12)
  have HY12 := hide ((unhide HY11).below hb12)
  clear ho12 hb12 HL11 HB11 HX11 HY11
  clear x0 x1 x2 x3 x4 x5 y0 y1 y2 y3 y4 y5
  go_wp2_with fail
  have S := c19 xs (some ⟨w11.heap.size, 0, none⟩) xs.length xs.length w12 rfl hbig (by simp) (own_rowI (unhide HP12))
  rw [← unhide HH] at S
  refine S.mono ?_
  rintro e w13 ⟨qn, rfl, ho13, hb13⟩
  have HC := hide (below_tr hb13 (below_a (.cells (hCs qn h).toArray 28)))
  have HB13 := hide (below_tr (unhide HB12) (unhide HC))
  have HL13 := hide ((unhide HL12).bel (unhide HC))
  have HX13 := hide ((unhide HXA).below (unhide HB13))
  have HY13 := hide ((unhide HY12).below (unhide HC))
  have HN13 := hide (ho13.rd.bel (below_a (.cells (hCs qn h).toArray 28)))
  clear ho13 hb13 HC HB12 HL12 HY12 HP12 S
  have x0 := (unhide HX13).cell 0 rfl
  have x1 := (unhide HX13).cell 1 rfl
  have x2 := (unhide HX13).cell 2 rfl
  have x3 := (unhide HX13).cell 3 rfl
  have x4 := (unhide HX13).cell 4 rfl
  have x5 := (unhide HX13).cell 5 rfl
  have y0 := (unhide HY13).cell 0 rfl
  have y1 := (unhide HY13).cell 1 rfl
  have y2 := (unhide HY13).cell 2 rfl
  have y3 := (unhide HY13).cell 3 rfl
  have y4 := (unhide HY13).cell 4 rfl
  have y5 := (unhide HY13).cell 5 rfl
  go_wp2_with fail
  refine (sameH h qn qs _ (unhide HS) (unhide HN13) ((unhide HMA).bel (unhide HB13))).mono ?_
  rintro e w14 ⟨rfl, hb14⟩
  have HB14 := hide (below_tr (unhide HB13) hb14)
  have HL14 := hide ((unhide HL13).bel hb14)
  have HX14 := hide ((unhide HXA).below (unhide HB14))
  have HY14 := hide ((unhide HY13).below hb14)
  clear hb14 HB13 HL13 HX13 HY13 HN13
  clear x0 x1 x2 x3 x4 x5 y0 y1 y2 y3 y4 y5
  have x0 := (unhide HX14).cell 0 rfl
  have x1 := (unhide HX14).cell 1 rfl
  have x2 := (unhide HX14).cell 2 rfl
  have x3 := (unhide HX14).cell 3 rfl
  have x4 := (unhide HX14).cell 4 rfl
  have x5 := (unhide HX14).cell 5 rfl
  have y0 := (unhide HY14).cell 0 rfl
  have y1 := (unhide HY14).cell 1 rfl
  have y2 := (unhide HY14).cell 2 rfl
  have y3 := (unhide HY14).cell 3 rfl
  have y4 := (unhide HY14).cell 4 rfl
  have y5 := (unhide HY14).cell 5 rfl
  go_wp2_with fail
  refine (heldH h qm _ _ (unhide HS) (unhide HL14)).mono ?_
  rintro e w15 ⟨rfl, hb15⟩
  have HB15 := hide (below_tr (below_tr (unhide HBA) (unhide HB14)) hb15)
  clear hb15 HB14 HL14 HX14 HY14
  clear x0 x1 x2 x3 x4 x5 y0 y1 y2 y3 y4 y5
  go_wp2_with fail
  go_ret
  exact ⟨rfl, unhide HB15⟩
end Go.Proofs.Ytnppgfnlfdnkpaa
