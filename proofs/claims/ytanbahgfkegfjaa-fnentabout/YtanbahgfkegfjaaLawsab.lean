/-
  The walk of the law FnEntAbout: at every code it answers true, and nothing that was there is written.
-/
import Derived.Test.YtanbahgfkegfjaaLogc
namespace Go.Proofs.Ytanbahgfkegfjaa
open Go.RowKit
set_option linter.unusedVariables false
set_option maxRecDepth 100000

theorem about_upto (es : List Tm.Ent) (k : Nat) : Tm.upto (fun e : Tm.Ent => e.2.1) es (k + 1) = Tm.upto (fun e : Tm.Ent => e.2.1) es k + (Tm.about es (k : Int)).length := rfl
theorem upto_le (es : List Tm.Ent) (k : Nat) : Tm.upto (fun e : Tm.Ent => e.2.1) es k ≤ es.length := by rw [Tm.upto_all]; exact List.length_filter_le _ _
/-- how many of the first so many are about a ticket that there is -/
def isT (e : Tm.Ent) : Bool := decide (0 ≤ e.2.1 ∧ e.2.1 < 8)
def cntT (es : List Tm.Ent) (k : Nat) : Nat := ((es.take k).filter isT).length
theorem cntT_le (es : List Tm.Ent) (k : Nat) : cntT es k ≤ es.length := by
  unfold cntT
  exact Nat.le_trans (List.length_filter_le _ _) (by rw [List.length_take]; omega)
theorem cntT_next {es : List Tm.Ent} {k : Nat} {x : Tm.Ent} (h : es[k]? = some x) : cntT es (k + 1) = cntT es k + (if 0 ≤ x.2.1 ∧ x.2.1 < 8 then 1 else 0) := by
  unfold cntT
  rw [List.take_add_one, h, List.filter_append, List.length_append]
  congr 1
  by_cases h2 : 0 ≤ x.2.1 ∧ x.2.1 < 8
  · simp [isT, h2]
  · rw [if_neg h2]; simp [isT]; omega
theorem cntT_all (es : List Tm.Ent) : cntT es es.length = Tm.upto (fun e : Tm.Ent => e.2.1) es 8 := by rw [Tm.about_sum]; unfold cntT isT; rw [List.take_length]

set_option maxHeartbeats 8000000 in
theorem law4 (bs : List Int) (ao : Option Addr) (n cap : Nat) (w : World) (hn : bs.length = n) (hc : n ≤ cap) (hm : cap ≤ maxLen) (hB : Bytes w ao bs) :
    Calls Try.prog 4 #[.slice ao n cap] w (Holds w) := by
  have HM := hide hm
  unfold maxLen at hm
  have HB := hide hB
  have HN := hide hn
  clear hB hn
  by_cases hbig : (1048576 : Int) < (n : Int)
  · go_enter Try.func4, Try.ntmps4
    go_wp2_with fail
    go_ret
    exact ⟨rfl, Below.refl _ _⟩
  go_enter Try.func4, Try.ntmps4
  go_wp2_with fail
  refine (c36 bs ao n cap _ HN.out hc (unhide HM) (unhide HB)).mono ?_
  rintro e w1 ⟨v, es, t, rfl, hes, ht, ho1, hb1⟩
  obtain ⟨al, capl, rfl, hcl, hR1, -⟩ := ho1.row
  have HB1 := hide hb1
  have HR1 := hide hR1
  clear ho1 hb1 hR1 HM hm HB HN hbig hc
  go_wp2_with fail
  refine (c37 es t al es.length capl _ rfl (by omega) (unhide HR1)).mono ?_
  rintro e w2 ⟨v2, rfl, ho2, hb2⟩
  have HB2 := hide (below_tr (unhide HB1) hb2)
  have HR2 := hide ((unhide HR1).below hb2)
  have HO2 := hide (ho2.mono (unhide HB1).size)
  clear ho2 hb2 HB1 HR1
  go_wp2_with fail
  refine (c39 es t al es.length capl _ rfl (by omega) (unhide HR2)).mono ?_
  rintro e w3 ⟨v3, rfl, ho3, hb3⟩
  have HB3 := hide (below_tr (unhide HB2) hb3)
  have HR3 := hide ((unhide HR2).below hb3)
  have hO2 := (unhide HO2).below hb3
  have hO3 := ho3.mono (unhide HB2).size
  obtain ⟨a2, cap2, rfl, -, hRR2, -⟩ := hO2.row
  obtain ⟨a3, cap3, rfl, -, hRR3, -⟩ := hO3.row
  have HRR2 := hide hRR2
  have HRR3 := hide hRR3
  have hfl : (Tm.about es t).length ≤ es.length := List.length_filter_le _ _
  clear ho3 hb3 HB2 HR2 HO2 hO2 hO3 hRR2 hRR3
  go_wp2_with fail
  refine (c38 (Tm.about es t) (Tm.about es t) a2 a3 (Tm.about es t).length cap2 (Tm.about es t).length cap3 _ rfl rfl (by omega) (by omega) (unhide HRR2) (unhide HRR3)).mono ?_
  rintro e w4 ⟨rfl, hb4⟩
  rw [decide_eq_true (rfl : Tm.about es t = Tm.about es t)]
  have HB4 := hide (below_tr (unhide HB3) hb4)
  have HR4 := hide ((unhide HR3).below hb4)
  have HRR4 := hide ((unhide HRR2).below hb4)
  have HAA := hide (Tm.about_about es t)
  generalize hab : Tm.about es t = ab at *
  have HAB := hide hab
  clear hab hb4 HB3 HR3 HRR2 HRR3
  go_wp2_with fail
  go_loopw [6, 7] (fun m i wr => ∃ (k : Nat), k ≤ 8 ∧ i = .int .i64 k ∧ m = .int .i64 (Tm.upto (fun e : Tm.Ent => e.2.1) es k : Nat) ∧ Below w.heap.size w wr ∧ Below w4.heap.size w4 wr) (fun _ i _ => 8 - (intOf i).toNat)
  case atStart => exact ⟨0, by omega, rfl, rfl, unhide HB4, Below.refl _ _⟩
  case round =>
    obtain ⟨k, hk, rfl, rfl, hbel, hb4⟩ := hrel
    have HBE := hide hbel
    have HB44 := hide hb4
    have hul := upto_le es k
    have HU := hide (about_upto es k)
    clear hbel hb4
    by_cases hlt : (k : Int) < 8
    · have HR5 := hide ((unhide HR4).below (unhide HB44))
      generalize hu : Tm.upto (fun e : Tm.Ent => e.2.1) es k = u at *
      clear hu
      go_wp2_with fail
      refine (c37 es k al es.length capl _ rfl (by omega) (unhide HR5)).mono ?_
      rintro e w5 ⟨v5, rfl, ho5, hb5⟩
      obtain ⟨a5, cap5, rfl, -, -, -⟩ := ho5.row
      have HB5 := hide (below_tr (unhide HBE) hb5)
      have HB45 := hide (below_tr (unhide HB44) hb5)
      have hfl5 : (Tm.about es k).length ≤ es.length := List.length_filter_le _ _
      clear ho5 hb5 HBE HB44 HR5
      generalize (Tm.about es k).length = q at *
      go_wp2_with fail
      go_roundw
      case rel => exact ⟨k + 1, by omega, by go_num, by rw [unhide HU]; go_num, unhide HB5, unhide HB45⟩
      case measure => simp [intOf]; omega
    · have hk8 : k = 8 := by omega
      subst hk8
      clear HU hlt hk
      have HUE := hide (cntT_all es)
      generalize Tm.upto (fun e : Tm.Ent => e.2.1) es 8 = u at *
      go_wp2_with fail
      go_loopw [8, 9] (fun m i wr => ∃ (j : Nat), j ≤ es.length ∧ i = .int .i64 j ∧ m = .int .i64 (cntT es j : Nat) ∧ Below w.heap.size w wr ∧ Below w4.heap.size w4 wr) (fun _ i _ => es.length - (intOf i).toNat)
      case atStart => exact ⟨0, by omega, rfl, rfl, unhide HBE, unhide HB44⟩
      case round =>
        obtain ⟨j, hj, rfl, rfl, hbel2, hb42⟩ := hrel
        have HBE2 := hide hbel2
        have HR6 := hide ((unhide HR4).below hb42)
        have HRR6 := hide ((unhide HRR4).below hb42)
        have HB442 := hide hb42
        clear hbel2 hb42 HBE HB44 HB4
        have hcl := cntT_le es j
        by_cases hlt : (j : Int) < (es.length : Int)
        · have hltN : j < es.length := by omega
          obtain ⟨b, off, rfl, hcc⟩ := (unhide HR6).2 (by intro e; subst e; simp at hltN)
          obtain ⟨x0, x1, x2, x3, hx⟩ := e_at4 hltN
          obtain ⟨g0, g1, g2, g3⟩ := e_cells (Below.refl _ _) hcc hx
          have HX := hide (cntT_next hx)
          clear hcc hx
          generalize hcu : cntT es j = cu at *
          clear hcu
          by_cases h1 : (0 : Int) ≤ x1
          · by_cases h2 : x1 < (8 : Int)
            · have hx2 : cntT es (j + 1) = cu + 1 := by rw [unhide HX, if_pos ⟨h1, h2⟩]
              clear HX
              go_wp2_with fail
              go_roundw
              case rel => exact ⟨j + 1, by omega, by go_num, by rw [hx2]; go_num, unhide HBE2, unhide HB442⟩
              case measure => simp [intOf]; omega
            · have hx2 : cntT es (j + 1) = cu := by rw [unhide HX, if_neg (fun h => h2 h.2)]; rfl
              clear HX
              go_wp2_with fail
              go_roundw
              case rel => exact ⟨j + 1, by omega, by go_num, by rw [hx2], unhide HBE2, unhide HB442⟩
              case measure => simp [intOf]; omega
          · have hx2 : cntT es (j + 1) = cu := by rw [unhide HX, if_neg (fun h => h1 h.1)]; rfl
            clear HX
            go_wp2_with fail
            go_roundw
            case rel => exact ⟨j + 1, by omega, by go_num, by rw [hx2], unhide HBE2, unhide HB442⟩
            case measure => simp [intOf]; omega
        · have hje : j = es.length := by omega
          subst hje
          rw [unhide HUE]
          clear HUE hlt hcl
          go_wp2_with fail
          refine (c37 ab t a2 ab.length cap2 _ rfl (by omega) (unhide HRR6)).mono ?_
          rintro e w6 ⟨v6, rfl, ho6, hb6⟩
          rw [unhide HAA] at ho6
          obtain ⟨a6, cap6, rfl, -, hRR7, -⟩ := ho6.row
          have HB6 := hide (below_tr (unhide HBE2) hb6)
          have HR7 := hide ((unhide HRR6).below hb6)
          have HR8 := hide hRR7
          clear ho6 hb6 hRR7 HRR6
          go_wp2_with fail
          refine (c38 ab ab a6 a2 ab.length cap6 ab.length cap2 _ rfl rfl (by omega) (by omega) (unhide HR8) (unhide HR7)).mono ?_
          rintro e w7 ⟨rfl, hb7⟩
          rw [decide_eq_true (rfl : ab = ab)]
          have HB7 := hide (below_tr (unhide HB6) hb7)
          clear hb7 HB6 HR7 HR8
          go_wp2_with fail
          refine (c40 _).mono ?_
          rintro e w8 ⟨rfl, rfl⟩
          go_wp2_with fail
          go_ret
          exact ⟨rfl, unhide HB7⟩
end Go.Proofs.Ytanbahgfkegfjaa
