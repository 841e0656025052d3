/-
  The walk of the law FnOwnFold: at every code it answers true, and nothing that was there is written.
-/
import Derived.Test.YtanbahgfkegfjaaLogc
namespace Go.Proofs.Ytanbahgfkegfjaa
open Go.RowKit
set_option linter.unusedVariables false
set_option maxRecDepth 100000

theorem ownFold_take {es : List Tm.Ent} {rs : List Tm.Rw} (h : Tm.ownFold es = some rs) (k : Nat) : foldIs (es.take k) = true := by
  have h40 : es.length ≤ 40 := by
    rcases Nat.lt_or_ge 40 es.length with h2 | h2
    · rw [ownFold_long (by omega)] at h; cases h
    · exact h2
  rw [ownFold_of h40] at h
  obtain ⟨r1, h1⟩ := Tm.foldE_take es k _ _ h
  have h2 : Tm.ownFold (es.take k) = some r1 := by rw [ownFold_of (by rw [List.length_take]; omega)]; exact h1
  exact (fold_some h2).2
theorem foldIs_nil : foldIs [] = true ∧ foldRows [] = Tm.none8 := by decide
/-- how far the law's own fold has come: the rows behind the first so many, or one that may not follow -/
def Far (es : List Tm.Ent) (k : Nat) (rs : List Tm.Rw) (b : Bool) : Prop :=
  (b = true ∧ es.length ≤ 40 ∧ Tm.foldE (es.take k) Tm.none8 = some rs ∧ Tm.ownOk rs = true) ∨ (b = false ∧ Tm.ownFold es = none)
theorem ERow.take {w : World} {ao : Option Addr} {es : List Tm.Ent} (h : ERow w ao es) (k : Nat) : ERow w ao (es.take k) := by
  refine ⟨fun e he => h.1 e (List.mem_of_mem_take he), fun hne => ?_⟩
  obtain ⟨b, off, rfl, hc⟩ := h.2 (by intro e; subst e; simp at hne)
  refine ⟨b, off, rfl, fun j v hv => hc j v ?_⟩
  have := flat_part es (es.take k) 0 k (by rw [List.drop_zero]) j v hv
  simpa using this

set_option maxHeartbeats 8000000 in
theorem law7 (bs : List Int) (ao : Option Addr) (n cap : Nat) (w : World) (hn : bs.length = n) (hc : n ≤ cap) (hm : cap ≤ maxLen) (hB : Bytes w ao bs) :
    Calls Try.prog 7 #[.slice ao n cap] w (Holds w) := by
  have HM := hide hm
  unfold maxLen at hm
  have HB := hide hB
  have HN := hide hn
  clear hB hn
  by_cases hbig : (1048576 : Int) < (n : Int)
  · go_enter Try.func7, Try.ntmps7
    go_wp2_with fail
    go_ret
    exact ⟨rfl, Below.refl _ _⟩
  go_enter Try.func7, Try.ntmps7
  go_wp2_with fail
  refine (c51 bs ao n cap _ HN.out hc (unhide HM) (unhide HB)).mono ?_
  rintro e w1 ⟨v, es, rfl, hes, ho1, hb1⟩
  obtain ⟨al, capl, rfl, hcl, hR1, -⟩ := ho1.row
  have HB1 := hide hb1
  have HR1 := hide hR1
  clear ho1 hb1 hR1 HM hm HB HN hbig hc
  go_wp2_with fail
  refine (c52 es al es.length capl _ rfl (by omega) (unhide HR1)).mono ?_
  rintro e w2 ⟨v2, rfl, ho2, hb2⟩
  have HB2 := hide (below_tr (unhide HB1) hb2)
  have HR2 := hide ((unhide HR1).below hb2)
  have HO2 := hide (ho2.mono (unhide HB1).size)
  clear ho2 hb2 HB1 HR1
  go_wp2_with fail
  refine (c53 es al es.length capl _ rfl (by omega) (unhide HR2)).mono ?_
  rintro e w3 ⟨v3, rfl, ho3, hb3⟩
  have HB3 := hide (below_tr (unhide HB2) hb3)
  have HR3 := hide ((unhide HR2).below hb3)
  have hO2 := (unhide HO2).below hb3
  have hO3 := ho3.mono (unhide HB2).size
  obtain ⟨a2, cap2, rfl, -, hRR2, -⟩ := hO2.row
  obtain ⟨a3, cap3, rfl, -, hRR3, -⟩ := hO3.row
  have HRR2 := hide hRR2
  have HRR3 := hide hRR3
  have hfl := foldRows_len es
  clear ho3 hb3 HB2 HR2 HO2 hO2 hO3 hRR2 hRR3
  go_wp2_with fail
  refine (c50 (foldRows es) (foldRows es) a2 a3 (foldRows es).length cap2 (foldRows es).length cap3 _ rfl rfl (by omega) (by omega) (unhide HRR2) (unhide HRR3)).mono ?_
  rintro e w4 ⟨rfl, hb4⟩
  rw [decide_eq_true (rfl : foldRows es = foldRows es)]
  have HB4 := hide (below_tr (unhide HB3) hb4)
  have HR4 := hide ((unhide HR3).below hb4)
  have HRR4 := hide ((unhide HRR2).below hb4)
  clear hb4 HB3 HR3 HRR2 HRR3
  generalize hfi : foldIs es = fi at *
  have HFI := hide hfi
  clear hfi
  have hnn : (fi != fi) = false := by simp
  go_wp2_with fail
  refine (c52 [] (some ⟨w4.heap.size, 0, none⟩) 0 0 _ rfl (by omega) ⟨fun e he => by simp at he, fun h => absurd rfl h⟩).mono ?_
  rintro e w5 ⟨v5, rfl, ho5, hb5⟩
  rw [foldIs_nil.2] at ho5
  rw [foldIs_nil.1]
  have hba := below_tr (below_a (w := w4) (.cells #[] 24)) hb5
  have HB5 := hide (below_tr (unhide HB4) hba)
  have HR5 := hide ((unhide HR4).below hba)
  have HRR5 := hide ((unhide HRR4).below hba)
  have HO5 := hide (ho5.mono (b := w.heap.size) (by have := (unhide HB4).size; simp; omega))
  clear ho5 hb5 hba HB4 HR4 HRR4
  have HF0 : Hid (Far es 0 Tm.none8 (decide ((es.length : Int) ≤ 40))) := by
    unfold Hid Far
    by_cases h40 : es.length ≤ 40
    · left
      exact ⟨by simp; omega, h40, by simp [Tm.foldE], Tm.none8_ok⟩
    · right
      exact ⟨by simp; omega, ownFold_long h40⟩
  go_wp2_with fail
  go_loopw [8, 10, 11] (fun v b i wr => ∃ (k : Nat) (bb : Bool) (rs : List Tm.Rw), k ≤ es.length ∧ i = .int .i64 k ∧ b = .bool bb ∧ rs.length ≤ 8 ∧ Far es k rs bb ∧ ROwn wr w.heap.size v rs ∧ Below w.heap.size w wr ∧ Below w5.heap.size w5 wr) (fun _ _ i _ => es.length - (intOf i).toNat)
  case atStart => exact ⟨0, _, Tm.none8, Nat.zero_le _, rfl, rfl, by decide, unhide HF0, unhide HO5, unhide HB5, Below.refl _ _⟩
  case round =>
    obtain ⟨k, bb, rs, hk, rfl, rfl, h8, hfar, hA, hbel, hb5⟩ := hrel
    have HFA := hide hfar
    have HA := hide hA
    have HBE := hide hbel
    have HB55 := hide hb5
    clear hfar hbel HF0 HO5 HB5
    by_cases hgo : k < es.length ∧ bb = true
    · obtain ⟨hlt, rfl⟩ := hgo
      obtain ⟨-, h40, hfo, hok⟩ := (unhide HFA).resolve_right (fun h => by cases h.1)
      have hlI : (k : Int) < (es.length : Int) := by omega
      obtain ⟨b, off, rfl, hcc⟩ := (unhide HR5).2 (by intro e; subst e; simp at hlt)
      obtain ⟨x0, x1, x2, x3, hx⟩ := e_at4 hlt
      obtain ⟨g0, g1, g2, g3⟩ := e_cells hb5 hcc hx
      have HX := hide hx
      have HL := hide (Tm.ownOk_iff.1 hok).1
      have HFO := hide hfo
      obtain ⟨ao1, cap1, rfl, hcap1, hr1, -⟩ := hA.row
      have HR1 := hide hr1
      have hao : ao1 = none → cap1 = 0 := by
        intro e
        subst e
        have := rrow_none hr1
        have h8 := unhide HL
        subst this
        simp at h8
      have HAO := hide hao
      have hlen1 := unhide HL
      have H40 := hide h40
      clear hcc hx hA hr1 hao hok hfo HFA HA h8 hb5 h40
      rw [hlen1]
      clear hlen1
      go_wp2_with fail
      refine (c48 rs x0 x1 x2 x3 ao1 8 cap1 _ (unhide HL) (by omega) (unhide HAO) (unhide HR1)).mono ?_
      rintro e w7 ⟨v7, rfl, ho7, hb7⟩
      have HB7 := hide (below_tr (unhide HBE) hb7)
      have HB57 := hide (below_tr (unhide HB55) hb7)
      have HO7 := hide (ho7.mono (unhide HBE).size)
      have HFN : Hid (Far es (k + 1) (Tm.ownPut rs (x0, x1, x2, x3)) (Tm.fits rs (x0, x1, x2, x3))) := by
        unfold Hid Far
        rcases hf : Tm.fits rs (x0, x1, x2, x3) with _ | _
        · right
          exact ⟨rfl, by rw [ownFold_of (unhide H40)]; exact fold_bad (unhide HX) (unhide HFO) hf⟩
        · left
          exact ⟨rfl, unhide H40, by rw [ownPut_of hf]; exact fold_next (unhide HX) (unhide HFO) hf, by rw [ownPut_of hf]; exact Tm.put_ok hf⟩
      have hl2 : (Tm.ownPut rs (x0, x1, x2, x3)).length ≤ 8 := by rw [ownPut_len, unhide HL]; omega
      clear ho7 hb7 HR1 HL HFO HX HAO
      generalize Tm.ownPut rs (x0, x1, x2, x3) = rs2 at *
      generalize Tm.fits rs (x0, x1, x2, x3) = fi2 at *
      go_wp2_with fail
      go_roundw
      case rel => exact ⟨k + 1, fi2, rs2, by omega, by go_num, rfl, hl2, unhide HFN, unhide HO7, unhide HB7, unhide HB57⟩
      case measure => simp [intOf]; omega
    · have hend : (fi = true ∧ bb = true ∧ rs = foldRows es ∧ Tm.ownOk rs = true) ∨ (fi = false ∧ bb = false ∧ (foldRows es).length = 0) := by
        rcases unhide HFA with ⟨h1, h40, hfo, hok⟩ | ⟨h1, hno⟩
        · left
          have hke : k = es.length := by
            rcases Nat.lt_or_ge k es.length with h | h
            · exact absurd ⟨h, h1⟩ hgo
            · omega
          subst hke
          rw [List.take_length] at hfo
          obtain ⟨f1, f2⟩ := fold_some (by rw [ownFold_of h40]; exact hfo)
          exact ⟨by rw [← unhide HFI, f2], h1, f1.symm, hok⟩
        · right
          obtain ⟨f1, f2⟩ := fold_none hno
          exact ⟨by rw [← unhide HFI, f2], h1, by rw [f1]; rfl⟩
      have hlb : (decide ((k : Int) < (es.length : Int)) && bb) = false := by
        rcases hb : bb with _ | _
        · simp
        · have : ¬ k < es.length := fun h => hgo ⟨h, hb⟩
          simp; omega
      have HTK : Hid (fi = true → foldIs (es.take (es.length / 2)) = true) := by
        intro h
        have h2 : foldIs es = true := by rw [unhide HFI]; exact h
        unfold foldIs at h2
        rw [Option.isSome_iff_exists] at h2
        obtain ⟨r, hr⟩ := h2
        exact ownFold_take hr _
      have HR6 := hide ((unhide HR5).below (unhide HB55))
      have HRR6 := hide ((unhide HRR5).below (unhide HB55))
      obtain ⟨ao1, cap1, rfl, hcap1, hr1, -⟩ := hA.row
      have HR1 := hide hr1
      clear hA hr1 HA HFA hgo hb5 HR5 HRR5 HB55
      rcases hend with ⟨rfl, rfl, hrs, hok⟩ | ⟨rfl, rfl, hz⟩
      · have hke : ¬ ((k : Int) < (es.length : Int)) := by simpa using hlb
        subst hrs
        have HOK := hide hok
        have hdv : ((es.length : Int).tdiv 2) = ((es.length / 2 : Nat) : Int) := by rw [Int.tdiv_eq_ediv_of_nonneg (by omega)]; rfl
        have hdw : IntKind.i64.wrap ((es.length / 2 : Nat) : Int) = ((es.length / 2 : Nat) : Int) := wrap_sub (by omega) (by omega)
        have hd0 : (0 : Int) ≤ ((es.length / 2 : Nat) : Int) := by omega
        have hd1 : ((es.length / 2 : Nat) : Int) ≤ (capl : Int) := by omega
        clear hlb hok
        go_wp2_with fail
        refine (c52 (es.take (es.length / 2)) al (es.length / 2) capl _ (by rw [List.length_take]; omega) (by omega) ((unhide HR6).take _)).mono ?_
        rintro e w8 ⟨v8, rfl, ho8, hb8⟩
        rw [unhide HTK (by first | trivial | rfl)]
        have HB8 := hide (below_tr (unhide HBE) hb8)
        have HRA := hide ((unhide HR1).below hb8)
        have HRB := hide ((unhide HRR6).below hb8)
        clear ho8 hb8 HBE HR1 HRR6 HR6 HTK hdv hdw hd0 hd1
        go_wp2_with fail
        refine (c50 (foldRows es) (foldRows es) ao1 a2 (foldRows es).length cap1 (foldRows es).length cap2 _ rfl rfl (by omega) (by omega) (unhide HRA) (unhide HRB)).mono ?_
        rintro e w9 ⟨rfl, hb9⟩
        rw [decide_eq_true (rfl : foldRows es = foldRows es)]
        have HB9 := hide (below_tr (unhide HB8) hb9)
        have HRC := hide ((unhide HRB).below hb9)
        clear hb9 HB8 HRA HRB
        go_wp2_with fail
        refine (c44 (foldRows es) a2 (foldRows es).length cap2 _ rfl (by omega) (unhide HRC)).mono ?_
        rintro e w10 ⟨rfl, hb10⟩
        rw [unhide HOK]
        have HB10 := hide (below_tr (unhide HB9) hb10)
        clear hb10 HB9 HRC
        go_wp2_with fail
        go_ret
        exact ⟨rfl, unhide HB10⟩
      · clear HR1 HR6 HRR6
        by_cases hkl : (k : Int) < (es.length : Int)
        · go_wp2_with fail
          go_ret
          exact ⟨rfl, unhide HBE⟩
        · go_wp2_with fail
          go_ret
          exact ⟨rfl, unhide HBE⟩
end Go.Proofs.Ytanbahgfkegfjaa
