/-
  The walk of the law FnOwnOnce: at every code it answers true, and nothing that was there is written.
-/
import Derived.Test.YtimaidcjccakeaaLawsfo
import Derived.BigQuiet
namespace Go.Proofs.Ytimaidcjccakeaa
open Go.RowKit
set_option linter.unusedVariables false
set_option maxRecDepth 100000

theorem foldE_kind : ∀ (l : List Tm.Ent) (rs rs' : List Tm.Rw), Tm.foldE l rs = some rs' → ∀ e ∈ l, e.1 = 1 ∨ e.1 = 2 ∨ e.1 = 3 := by
  intro l
  induction l with
  | nil => intro rs rs' _ e he; simp at he
  | cons a l ih =>
    intro rs rs' h e he
    unfold Tm.foldE at h
    by_cases hf : Tm.fits rs a = true
    · rw [if_pos hf] at h
      rcases List.mem_cons.1 he with rfl | he
      · have := (Tm.entOk_iff.1 (Tm.fits_iff.1 hf).2.1).2.2.2.2
        omega
      · exact ih _ _ h e he
    · rw [if_neg hf] at h; cases h
theorem kind_at {es : List Tm.Ent} {k : Int} (hf : foldIs es = true) {i : Nat} {e : Tm.Ent} (h : (Tm.about es k)[i]? = some e) : e.1 = 1 ∨ e.1 = 2 ∨ e.1 = 3 := by
  unfold foldIs at hf
  rw [Option.isSome_iff_exists] at hf
  obtain ⟨rs, hr⟩ := hf
  have h40 : es.length ≤ 40 := by
    rcases Nat.lt_or_ge 40 es.length with h2 | h2
    · rw [ownFold_long (by omega)] at hr; cases hr
    · exact h2
  rw [ownFold_of h40] at hr
  have hm := List.mem_of_getElem? h
  unfold Tm.about at hm
  exact foldE_kind es _ _ hr e (List.mem_filter.1 hm).1

/-- what is told of the entries about a ticket, place by place -/
theorem once_at {es : List Tm.Ent} {k : Nat} (hf : foldIs es = true) (hk : k < 8) : Tm.Once (Tm.about es k) (Tm.at' (foldRows es) k) := by
  unfold foldIs at hf
  rw [Option.isSome_iff_exists] at hf
  obtain ⟨rs, hr⟩ := hf
  have h40 : es.length ≤ 40 := by
    rcases Nat.lt_or_ge 40 es.length with h2 | h2
    · rw [ownFold_long (by omega)] at hr; cases hr
    · exact h2
  have h1 := (fold_some hr).1
  rw [h1]
  rw [ownFold_of h40] at hr
  exact Tm.once_all es rs hr k (by omega) (by omega)
theorem foldRows_8 {es : List Tm.Ent} (hf : foldIs es = true) : (foldRows es).length = 8 := by
  unfold foldIs at hf
  rw [Option.isSome_iff_exists] at hf
  obtain ⟨rs, hr⟩ := hf
  have h40 : es.length ≤ 40 := by
    rcases Nat.lt_or_ge 40 es.length with h2 | h2
    · rw [ownFold_long (by omega)] at hr; cases hr
    · exact h2
  rw [(fold_some hr).1]
  rw [ownFold_of h40] at hr
  exact (Tm.ownOk_iff.1 (Tm.foldE_ok es _ _ Tm.none8_ok hr)).1

set_option maxHeartbeats 16000000 in
theorem law6 (bs : List Int) (ao : Option Addr) (n cap : Nat) (w : World) (hn : bs.length = n) (hc : n ≤ cap) (hm : cap ≤ maxLen) (hB : Bytes w ao bs) :
    Calls Try.prog 6 #[.slice ao n cap] w (Holds w) := by
  have HM := hide hm
  unfold maxLen at hm
  have HB := hide hB
  have HN := hide hn
  clear hB hn
  by_cases hbig : (1048576 : Int) < (n : Int)
  · go_enter Try.func6, Try.ntmps6
    go_wp2_with fail
    go_ret
    exact ⟨rfl, Below.refl _ _⟩
  go_enter Try.func6, Try.ntmps6
  go_wp2_with fail
  refine (c47 bs ao n cap _ HN.out hc (unhide HM) (unhide HB)).mono ?_
  rintro e w1 ⟨v, es, rfl, hes, ho1, hb1⟩
  obtain ⟨al, capl, rfl, hcl, hR1, -⟩ := ho1.row
  have HB1 := hide hb1
  have HR1 := hide hR1
  clear ho1 hb1 hR1 HM hm HB HN hbig hc
  go_wp2_with fail
  refine (c48 es al es.length capl _ rfl (by omega) (unhide HR1)).mono ?_
  rintro e w2 ⟨v2, rfl, ho2, hb2⟩
  have HB2 := hide (below_tr (unhide HB1) hb2)
  have HR2 := hide ((unhide HR1).below hb2)
  have HO2 := hide (ho2.mono (unhide HB1).size)
  clear ho2 hb2 HB1 HR1
  go_wp2_with fail
  refine (c49 es al es.length capl _ rfl (by omega) (unhide HR2)).mono ?_
  rintro e w3 ⟨v3, rfl, ho3, hb3⟩
  have HB3 := hide (below_tr (unhide HB2) hb3)
  have HR3 := hide ((unhide HR2).below hb3)
  have hO2 := (unhide HO2).below hb3
  have hO3 := ho3.mono (unhide HB2).size
  obtain ⟨a2, cap2, rfl, -, hRR2, -⟩ := hO2.row
  obtain ⟨a3, cap3, rfl, -, hRR3, -⟩ := hO3.row
  have HRR2 := hide hRR2
  have HRR3 := hide hRR3
  have hfl := foldRows_len es
  clear ho3 hb3 HB2 HR2 HO2 hO2 hO3 hRR2 hRR3
  go_wp2_with fail
  refine (c46 (foldRows es) (foldRows es) a2 a3 (foldRows es).length cap2 (foldRows es).length cap3 _ rfl rfl (by omega) (by omega) (unhide HRR2) (unhide HRR3)).mono ?_
  rintro e w4 ⟨rfl, hb4⟩
  rw [decide_eq_true (rfl : foldRows es = foldRows es)]
  have HB4 := hide (below_tr (unhide HB3) hb4)
  have HR4 := hide ((unhide HR3).below hb4)
  have HRR4 := hide ((unhide HRR2).below hb4)
  clear hb4 HB3 HR3 HRR2 HRR3
  generalize hfi : foldIs es = fi at *
  have HFI := hide hfi
  clear hfi
  have hnn : (fi != fi) = false := by simp
  go_wp2_with fail
  go_loopw [8] (fun i wr => ∃ (k : Nat), k ≤ 8 ∧ i = .int .i64 k ∧ Below w.heap.size w wr ∧ Below w4.heap.size w4 wr) (fun i _ => 8 - (intOf i).toNat)
  case atStart => exact ⟨0, by omega, rfl, unhide HB4, Below.refl _ _⟩
  case round =>
    obtain ⟨k, hk, rfl, hbel, hb4⟩ := hrel
    have HBE := hide hbel
    have HB44 := hide hb4
    clear hbel hb4 HB4
    by_cases hgo : (k : Int) < 8 ∧ fi = true
    · obtain ⟨hlt, rfl⟩ := hgo
      have HR5 := hide ((unhide HR4).below (unhide HB44))
      have HON := hide (once_at (unhide HFI) (by omega : k < 8))
      have H8 := hide (foldRows_8 (unhide HFI))
      have HKD : Hid (∀ (i : Nat) (e : Tm.Ent), (Tm.about es k)[i]? = some e → e.1 = 1 ∨ e.1 = 2 ∨ e.1 = 3) := fun i e h => kind_at (unhide HFI) h
      go_wp2_with fail
      refine (c50 es k al es.length capl _ rfl (by omega) (unhide HR5)).mono ?_
      rintro e w5 ⟨v5, rfl, ho5, hb5⟩
      obtain ⟨ax, capx, rfl, -, hRX, -⟩ := ho5.row
      have HB5 := hide (below_tr (unhide HBE) hb5)
      have HB45 := hide (below_tr (unhide HB44) hb5)
      have HRX := hide hRX
      have hfl5 : (Tm.about es k).length ≤ es.length := List.length_filter_le _ _
      clear ho5 hb5 hRX HBE HB44 HR5
      generalize Tm.about es k = x at *
      go_wp2_with fail
      go_loopw [10] (fun i wr => ∃ (j : Nat), j ≤ x.length ∧ i = .int .i64 j ∧ Below w.heap.size w wr ∧ Below w4.heap.size w4 wr ∧ Below w5.heap.size w5 wr) (fun i _ => x.length - (intOf i).toNat)
      case atStart => exact ⟨0, by omega, rfl, unhide HB5, unhide HB45, Below.refl _ _⟩
      case round =>
        obtain ⟨j, hj, rfl, hbel, hb4, hb5⟩ := hrel
        have HBE := hide hbel
        have HB44 := hide hb4
        have HB55 := hide hb5
        clear hbel hb4 HB5 HB45
        by_cases hjl : (j : Int) < (x.length : Int)
        · have hjN : j < x.length := by omega
          obtain ⟨b, off, rfl, hcc⟩ := (unhide HRX).2 (by intro e; subst e; simp at hjN)
          obtain ⟨x0, x1, x2, x3, hx⟩ := e_at4 hjN
          obtain ⟨g0, g1, g2, g3⟩ := e_cells hb5 hcc hx
          have hfirst := (unhide HON).first j _ hx
          dsimp only at hfirst
          by_cases hk1 : x0 = 1
          · subst hk1
            have hj0 : j = 0 := hfirst.2 rfl
            subst hj0
            simp only [Nat.zero_mul, Nat.add_zero] at g0 g1 g2 g3
            clear hfirst hcc hx hb5
            go_wp2_with fail
            go_quiet (fail)
            go_wp2_with fail
            go_quiet (fail)
            go_wp2_with fail
            go_roundw
            case rel => exact ⟨1, by omega, by go_num, below_drewN (unhide HBE) _, below_drewN (unhide HB44) _, below_drewN (unhide HB55) _⟩
            case measure => simp [intOf]; omega
          · have hjne : j ≠ 0 := fun h => hk1 (hfirst.1 h)
            have hjd : decide ((j : Int) = 0) = false := by rw [decide_eq_false_iff_not]; omega
            have hjd2 : ((j : Int) == 0) = false := by rw [beq_eq_false_iff_ne]; omega
            have hkd : decide (x0 = 1) = false := by rw [decide_eq_false_iff_not]; exact hk1
            by_cases hk3 : x0 = 3
            · subst hk3
              obtain ⟨hlast, ⟨d0, d1, d2, d3⟩, hd, hwho⟩ := (unhide HON).enter j _ hx rfl
              dsimp only at hwho
              subst hwho
              obtain ⟨m, rfl⟩ : ∃ m, m = j - 1 := ⟨_, rfl⟩
              obtain ⟨p0, p1, p2, p3⟩ := e_cells hb5 hcc hd
              have hsub : IntKind.i64.wrap ((j : Int) - 1) = ((j - 1 : Nat) : Int) := by rw [wrap_sub (by omega) (by omega)]; omega
              have hsubL : IntKind.i64.wrap ((x.length : Int) - 1) = (j : Int) := by rw [wrap_sub (by omega) (by omega)]; omega
              have hml : ((j - 1 : Nat) : Int) < (x.length : Int) := by omega
              have hm0 : (0 : Int) ≤ ((j - 1 : Nat) : Int) := by omega
              generalize j - 1 = m at *
              clear hfirst hcc hx hb5 hd hlast hkd hk1
              go_wp2_with fail
              go_quiet (fail)
              go_wp2_with fail
              go_quiet (fail)
              go_wp2_with fail
              go_roundw
              case rel => exact ⟨j + 1, by omega, by go_num, below_drewN (unhide HBE) _, below_drewN (unhide HB44) _, below_drewN (unhide HB55) _⟩
              case measure => simp [intOf]; omega
            · have hkd3 : decide (x0 = 3) = false := by rw [decide_eq_false_iff_not]; exact hk3
              by_cases hk2 : x0 = 2
              · subst hk2
                obtain ⟨⟨⟨d0, d1, d2, d3⟩, hd, hwho⟩, hcap⟩ := (unhide HON).pass j _ hx rfl
                dsimp only at hwho
                obtain ⟨p0, p1, p2, p3⟩ := e_cells hb5 hcc hd
                obtain ⟨f0, f1, f2, f3, hf⟩ := e_at4 (show 0 < x.length by omega)
                obtain ⟨y0, y1, y2, y3⟩ := e_cells hb5 hcc hf
                have hcap := hcap _ (by rw [List.head?_eq_getElem?]; exact hf)
                dsimp only at hcap
                simp only [Nat.zero_mul, Nat.add_zero] at y0 y1 y2 y3
                have hwd : (x2 == d2) = false := by rw [beq_eq_false_iff_ne]; exact hwho
                have hcd : decide (Tm.cap f3 < x3) = false := by rw [decide_eq_false_iff_not]; omega
                have hsub : IntKind.i64.wrap ((j : Int) - 1) = ((j - 1 : Nat) : Int) := by rw [wrap_sub (by omega) (by omega)]; omega
                have hml : ((j - 1 : Nat) : Int) < (x.length : Int) := by omega
                have hm0 : (0 : Int) ≤ ((j - 1 : Nat) : Int) := by omega
                have hl0 : (0 : Int) < (x.length : Int) := by omega
                generalize j - 1 = m at *
                have HY := hide y3
                have HP := hide p2
                have HW := hide hwd
                have HC := hide hcd
                have HS := hide hsub
                clear hfirst hcc hx hb5 hd hkd hkd3 hf hwho hcap hk1 hk3 y0 y1 y2 y3 p0 p1 p2 p3 hwd hcd hsub
                have HML := hide hml
                have HM0 := hide hm0
                have HL0 := hide hl0
                have HL1 := hide (show ¬ x = [] by intro e; subst e; simp at hl0)
                have HL2 := hide (show 0 < x.length by omega)
                clear hml hm0 hl0
                go_wp2_with fail
                go_quiet (fail)
                have y3 := unhide HY
                have p2 := unhide HP
                have hwd := unhide HW
                have hcd := unhide HC
                have hsub := unhide HS
                have hml := unhide HML
                have hm0 := unhide HM0
                have hl0 := unhide HL0
                have hl1 := unhide HL1
                have hl2 := unhide HL2
                have hl3 : decide (x = []) = false := by rw [decide_eq_false_iff_not]; exact hl1
                have hl4 : decide ((0 : Int) < (x.length : Int)) = true := by rw [decide_eq_true_iff]; exact hl0
                go_wp2_with fail
                go_quiet ((go_at_call 42; refine (c42 _ _).mono ?_; rintro e w' ⟨rfl, rfl⟩; exact ⟨rfl, _, rfl⟩))
                go_wp2_with fail
                go_roundw
                case rel => exact ⟨j + 1, by omega, by go_num, below_drewN (unhide HBE) _, below_drewN (unhide HB44) _, below_drewN (unhide HB55) _⟩
                case measure => simp [intOf]; omega
              · exact absurd (unhide HKD j _ hx) (by simp only [not_or]; exact ⟨hk1, hk2, hk3⟩)
        · have h8 := unhide H8
          obtain ⟨br, offr, rfl, hcr⟩ := (unhide HRR4).2 (by intro e; rw [e] at h8; simp at h8)
          have hkN : k < (foldRows es).length := by omega
          obtain ⟨⟨r0, r1, r2⟩, hr⟩ : ∃ y, (foldRows es)[k]? = some y := ⟨_, List.getElem?_eq_getElem hkN⟩
          obtain ⟨z0, z1, z2⟩ := r_cells (unhide HB44) hcr hr
          have hat : Tm.at' (foldRows es) k = (r0, r1, r2) := by
            unfold Tm.at'
            rw [Int.toNat_natCast, List.getD_eq_getElem?_getD, hr]; rfl
          have hON := unhide HON
          rw [hat] at hON
          clear hat hr hcr HON
          have hk0 : (0 : Int) ≤ (k : Int) := by omega
          have hk8 : (k : Int) < ((foldRows es).length : Int) := by omega
          clear h8 hkN
          rcases Nat.eq_zero_or_pos x.length with hz | hp
          · have hx0 : x = [] := List.length_eq_zero_iff.1 hz
            have hrr := hON.none hx0
            have hr0 : r0 = 0 := by cases hrr; rfl
            subst hr0
            subst hx0
            clear hrr hON hz hb5
            go_wp2_with fail
            go_quiet (fail)
            go_wp2_with fail
            go_roundw
            case rel => exact ⟨k + 1, by omega, by go_num, below_drewN (unhide HBE) _, below_drewN (unhide HB44) _⟩
            case measure => simp [intOf]; omega
          · have hl0 : (0 : Int) < (x.length : Int) := by omega
            have hld : decide ((x.length : Int) = 0) = false := by rw [decide_eq_false_iff_not]; omega
            have hld2 : decide (x = []) = false := by rw [decide_eq_false_iff_not]; intro e; subst e; simp at hp
            have hld3 : (((x.length : Int)) == 0) = false := by rw [beq_eq_false_iff_ne]; omega
            obtain ⟨b, off, rfl, hcc⟩ := (unhide HRX).2 (by intro e; subst e; simp at hp)
            obtain ⟨x0, x1, x2, x3, hx⟩ := e_at4 (show x.length - 1 < x.length by omega)
            obtain ⟨g0, g1, g2, g3⟩ := e_cells hb5 hcc hx
            have hwho := (hON.who _ (by rw [List.getLast?_eq_getElem?]; exact hx)).1
            dsimp only at hwho
            subst hwho
            have hsubL : IntKind.i64.wrap ((x.length : Int) - 1) = ((x.length - 1 : Nat) : Int) := by rw [wrap_sub (by omega) (by omega)]; omega
            have hml : ((x.length - 1 : Nat) : Int) < (x.length : Int) := by omega
            have hm0 : (0 : Int) ≤ ((x.length - 1 : Nat) : Int) := by omega
            generalize x.length - 1 = m at *
            clear hON hx hcc hb5
            go_wp2_with fail
            go_quiet (fail)
            go_wp2_with fail
            go_roundw
            case rel => exact ⟨k + 1, by omega, by go_num, below_drewN (unhide HBE) _, below_drewN (unhide HB44) _⟩
            case measure => simp [intOf]; omega
    · clear HRR4 HR4 HFI
      by_cases hk8 : (k : Int) < 8
      · have hfi : fi = false := by
          rcases fi with _ | _
          · rfl
          · exact absurd ⟨hk8, rfl⟩ hgo
        subst hfi
        clear hgo
        go_wp2_with fail
        refine (c41 _).mono ?_
        rintro e w8 ⟨rfl, rfl⟩
        go_wp2_with fail
        go_ret
        exact ⟨rfl, unhide HBE⟩
      · clear hgo
        go_wp2_with fail
        refine (c41 _).mono ?_
        rintro e w8 ⟨rfl, rfl⟩
        go_wp2_with fail
        go_ret
        exact ⟨rfl, unhide HBE⟩
end Go.Proofs.Ytimaidcjccakeaa
