/-
  The walk of the law FnOwnRoot: at every code it answers true, and nothing that was there is written.
-/
import Derived.Test.YtimaidcjccakeaaDrr
import Derived.Test.YtimaidcjccakeaaClasj
import Derived.Test.YtimaidcjccakeaaOwr
import Derived.Test.YtimaidcjccakeaaOwnc
namespace Go.Proofs.Ytimaidcjccakeaa
open Go.RowKit
set_option linter.unusedVariables false
set_option maxRecDepth 100000

set_option maxHeartbeats 2000000 in
theorem c57 (rs : List Tm.Rw) (ao : Option Addr) (n cap : Nat) (w : World) (hn : rs.length = n) (hm : n ≤ 1048576) (hr : RRow w ao rs) : Calls Try.prog 57 #[.slice ao n cap] w (Told w (leavesR rs)) := by
  subst hn
  obtain ⟨hfit, hr⟩ := hr
  obtain ⟨i0, hi, hz0, hz1, hz2⟩ := info_parts Try.info3
  have HO := hide (own_empty w w.heap.size (Nat.le_refl _))
  have HR := hide hr
  have HF := hide hfit
  clear hr hfit
  go_enter Try.func57, Try.ntmps57
  go_wp2_with fail
  go_loopw [3, 4] (fun v i wr => ∃ k : Nat, k ≤ rs.length ∧ i = .int .i64 k ∧ Own wr w.heap.size v (lvTo rs k) ∧ Below w.heap.size w wr) (fun _ i _ => rs.length - (intOf i).toNat)
  case atStart => exact ⟨0, Nat.zero_le _, rfl, unhide HO, below_a _⟩
  case round =>
    obtain ⟨k, hk, rfl, hown, hbel⟩ := hrel
    by_cases hlt : k < rs.length
    · obtain ⟨b, off, rfl, hc⟩ := unhide HR (by intro e; subst e; simp at hlt)
      obtain ⟨x0, x1, x2, hx⟩ := r_at hlt
      obtain ⟨g0, g1, g2⟩ := r_cells hbel hc hx
      have hlen := lvTo_len rs k
      have HT := hide (lvTo_succ hx)
      have HX : Hid (FitR (x0, x1, x2)) := unhide HF _ (List.mem_of_getElem? hx)
      have HOW := hide hown
      have HBE := hide hbel
      clear hown hbel hc hx HO
      generalize lvTo rs k = zs at *
      have HN := hide (ownLeaf_fits (k : Int) (x0, x1, x2))
      go_wp2_with fail
      refine (c58 (k : Int) x0 x1 x2 _ (unhide HX)).mono ?_
      rintro e w2 ⟨rfl, hb2⟩
      have HB2 := hide (below_tr (unhide HBE) hb2)
      have HO2 := hide ((unhide HOW).below hb2)
      clear hb2 HOW
      generalize hy : Tm.ownLeaf (k : Int) (x0, x1, x2) = y at *
      have HY := hide hy
      clear hy
      go_wp2_with (first | (at_builtin; refine wpList_append_own _ rfl _ _ 28 rfl w.heap.size 3 i0 (.int .i64 0) 1 8 Try.underlying28 hi hz0 hz1 hz2 rfl (by decide) _ _ _ rfl ((unhide HO2).2.alloc _) ⟨w2.heap.size, 0, none⟩ 1 1 [.int .i64 y] rfl rfl (cell_one_new _ _ _) (by simp [Value.oneCell']) (by unfold maxLen; omega) (by omega) (by have := (unhide HB2).size; simp; omega) ?_; intro v' w4 hown' hgrow _) | fail)
      have hfin := own_fin2 (unhide HB2) (unhide HO2) (unhide HN) hown' hgrow
      have H1 := hide hfin
      clear hfin hown' hgrow
      go_wp2_with fail
      go_roundw
      case rel => exact ⟨k + 1, by omega, by go_num, by rw [unhide HT]; exact (unhide H1).1, (unhide H1).2⟩
      case measure => simp [intOf]; omega
    · have hke : k = rs.length := by omega
      subst hke
      have HRS : Hid (leavesR rs = lvTo rs rs.length) := rfl
      have H1 := hide hown
      have H2 := hide hbel
      clear hown hbel
      go_wp2_with fail
      go_ret
      exact ⟨_, rfl, by rw [unhide HRS]; exact unhide H1, unhide H2⟩

theorem goes75' : Goes75 := fun f l ps i leaf p bo m cap' w h1 h2 h3 h4 h5 h6 => c152 f l ps i leaf p bo m cap' w h1 h2 h3 h4 h5 h6
theorem RRow.at {w : World} {b off j : Nat} {rs : List Tm.Rw} {a c : Int} {d : Bool} (h : RRow w (some ⟨b, off, none⟩) rs) (hj : rs[j]? = some (a, c, d)) :
    w.cell? ⟨b, off + j * 3, none⟩ = some (.int .i64 a) ∧ w.cell? ⟨b, off + j * 3 + 1, none⟩ = some (.int .i64 c) ∧ w.cell? ⟨b, off + j * 3 + 2, none⟩ = some (.bool d) := by
  obtain ⟨b', off', he, hc⟩ := h.2 (by intro e; subst e; simp at hj)
  cases he
  exact r_cells (Below.refl _ _) hc hj
theorem prf3 {l : List Int} {i : Nat} (h : l.length = 8) (hi : i < 8) : (Tm.prf l i).length = 3 := by
  have s8 : ∀ l : List Int, l.length = 8 → Tm.sp l = 4 := fun l h => by unfold Tm.sp; rw [h]; rfl
  have s4 : ∀ l : List Int, l.length = 4 → Tm.sp l = 2 := fun l h => by unfold Tm.sp; rw [h]; rfl
  have s2 : ∀ l : List Int, l.length = 2 → Tm.sp l = 1 := fun l h => by unfold Tm.sp; rw [h]; rfl
  have p1 : ∀ (l : List Int) (i : Nat), l.length = 1 → (Tm.prf l i).length = 0 := fun l i h => by rw [Tm.prf_one (by omega)]; rfl
  have p2 : ∀ (l : List Int) (i : Nat), l.length = 2 → (Tm.prf l i).length = 1 := fun l i h => by
    by_cases hs : i < Tm.sp l
    · rw [Tm.prf_left (by omega) (by omega) hs, List.length_append, p1 _ _ (by rw [List.length_take, s2 l h, h]; rfl)]; rfl
    · rw [Tm.prf_right (by omega) (by omega) hs, List.length_append, p1 _ _ (by rw [List.length_drop, s2 l h, h])]; rfl
  have p4 : ∀ (l : List Int) (i : Nat), l.length = 4 → (Tm.prf l i).length = 2 := fun l i h => by
    by_cases hs : i < Tm.sp l
    · rw [Tm.prf_left (by omega) (by omega) hs, List.length_append, p2 _ _ (by rw [List.length_take, s4 l h, h]; rfl)]; rfl
    · rw [Tm.prf_right (by omega) (by omega) hs, List.length_append, p2 _ _ (by rw [List.length_drop, s4 l h, h])]; rfl
  by_cases hs : i < Tm.sp l
  · rw [Tm.prf_left (by omega) (by omega) hs, List.length_append, p4 _ _ (by rw [List.length_take, s8 l h, h]; rfl)]; rfl
  · rw [Tm.prf_right (by omega) (by omega) hs, List.length_append, p4 _ _ (by rw [List.length_drop, s8 l h, h])]; rfl
theorem leavesR_at {rs : List Tm.Rw} {j : Nat} {r : Tm.Rw} (hj : rs[j]? = some r) : (leavesR rs).getD j 0 = Tm.ownLeaf (j : Int) r := by
  have hl := lt_of_get hj
  have h2 : rs[j] = r := by rw [List.getElem?_eq_getElem hl] at hj; exact Option.some.inj hj
  unfold leavesR lvTo
  simp [List.getD, hl, h2]
/-- with nobody entered where somebody has, or the other way, the leaf is another one -/
theorem ownLeaf_used {t a c : Int} {d : Bool} (ht : 0 ≤ t ∧ t ≤ 7) : Tm.ownLeaf t (a, c, !d) ≠ Tm.ownLeaf t (a, c, d) := by
  rw [ownLeaf_of ht, ownLeaf_of ht]
  cases d
  · exact Tm.leaf_last [1000 + t, a, c] 0 1 (Or.inl rfl)
  · exact Tm.leaf_last [1000 + t, a, c] 1 0 (Or.inr rfl)
theorem clash_len {l : List Int} {i : Nat} {leaf : Int} {ps : List Int} (ho : Tm.treOk l = true) (hne : leaf ≠ l.getD i 0) :
    (Tm.treClash l (i : Int) leaf ps).length = if Tm.treCheck (Tm.treRoot l) l.length i leaf ps = true then 4 else 0 := by
  by_cases hc : Tm.treCheck (Tm.treRoot l) l.length i leaf ps = true
  · have hh : Tm.treOk l = true ∧ Tm.treCheck (Tm.treRoot l) l.length (i : Int) leaf ps = true ∧ leaf ≠ l.getD (i : Int).toNat 0 := ⟨ho, hc, by rw [Int.toNat_natCast]; exact hne⟩
    rw [treClash_of hh, if_pos hc]
    obtain ⟨a, b, c, d, he, -⟩ := Tm.clash_is l.length l i leaf ps (Nat.le_refl _) (Tm.inv_of hh.1 hh.2.1 hh.2.2)
    rw [he]; rfl
  · rw [treClash_no (fun h => hc h.2.1), if_neg hc]; rfl

set_option maxHeartbeats 8000000 in
theorem law7 (bs : List Int) (ao : Option Addr) (n cap : Nat) (w : World) (hn : bs.length = n) (hc : n ≤ cap) (hm : cap ≤ maxLen) (hB : Bytes w ao bs) :
    Calls Try.prog 7 #[.slice ao n cap] w (Holds w) := by
  have HM := hide hm
  unfold maxLen at hm
  have HBY := hide hB
  have HN := hide hn
  have HB := hide (Below.refl w.heap.size w)
  clear hB hn
  by_cases hbig : (1048576 : Int) < (n : Int)
  case pos =>
    go_enter Try.func7, Try.ntmps7
    go_wp2_with fail
    go_ret
    exact ⟨rfl, unhide HB⟩
  go_enter Try.func7, Try.ntmps7
  go_wp2_with fail
  refine (c51 bs ao n cap _ HN.out hc (unhide HM) (unhide HBY)).mono ?_
  rintro e w1 ⟨ar, nr, cr, rs, t, rfl, hnr, h8, hcr, ht, hr, hb⟩
  replace HB := hide (below_tr (unhide HB) hb)
  clear HBY
  have HR := hide (hr)
  clear hb hr
  have HNR := hide hnr
  clear hnr
  have hpl := ownProof_len rs t
  generalize hps : ownProof rs t = ps at *
  have HPS := hide hps
  clear hps
  generalize hrt : ownRoot rs = rt at *
  have HRT := hide hrt
  clear hrt
  go_wp2_with fail
  refine (c52 rs t ar nr cr _ (unhide HNR) (by omega) (unhide HR)).mono ?_
  rintro e w2 ⟨v, rfl, ho, hb⟩
  rw [unhide HPS] at ho
  obtain ⟨ap, cp, rfl, hcp, hrr, -⟩ := ho.row
  replace HB := hide (below_tr (unhide HB) hb)
  replace HR := hide ((unhide HR).bel hb)
  have HP := hide (hrr)
  clear hb ho hrr
  go_wp2_with fail
  refine (c53 rs ar nr cr _ (unhide HNR) (by omega) (unhide HR)).mono ?_
  rintro e w3 ⟨rfl, hb⟩
  rw [unhide HRT]
  replace HB := hide (below_tr (unhide HB) hb)
  replace HR := hide ((unhide HR).bel hb)
  replace HP := hide ((unhide HP).bel hb)
  clear hb
  go_wp2_with fail
  refine (c54 rs t ar nr cr _ (unhide HNR) (by omega) (unhide HR)).mono ?_
  rintro e w4 ⟨v, rfl, ho, hb⟩
  rw [unhide HPS] at ho
  obtain ⟨aq, cq, rfl, hcq, hrr, -⟩ := ho.row
  replace HB := hide (below_tr (unhide HB) hb)
  replace HR := hide ((unhide HR).bel hb)
  replace HP := hide ((unhide HP).bel hb)
  have HQ := hide (hrr)
  clear hb ho hrr
  go_wp2_with fail
  refine (dnB (c32 ps ps ap aq ps.length cp ps.length cq _ rfl rfl (by omega) (by omega) (unhide HP) (unhide HQ))).mono ?_
  rintro e w5 ⟨rfl, hb⟩
  rw [decide_eq_true (rfl : ps = ps)]
  replace HB := hide (below_tr (unhide HB) hb)
  replace HR := hide ((unhide HR).bel hb)
  replace HP := hide ((unhide HP).bel hb)
  clear HQ
  clear hb
  go_wp2_with fail
  refine (c55 rs ar nr cr _ (unhide HNR) (by omega) (unhide HR)).mono ?_
  rintro e w6 ⟨rfl, hb⟩
  rw [unhide HRT]
  replace HB := hide (below_tr (unhide HB) hb)
  replace HR := hide ((unhide HR).bel hb)
  replace HP := hide ((unhide HP).bel hb)
  clear hb
  go_wp2_with fail
  rcases hok : Tm.ownOk rs with _ | _
  case false =>
    have e0 := ownRoot_no hok
    rw [unhide HRT] at e0
    subst e0
    have e1 := ownProof_no (t := t) hok
    rw [unhide HPS] at e1
    subst e1
    refine (c40 rs ar nr cr _ (unhide HNR) (by omega) (unhide HR)).mono ?_
    rintro e w7 ⟨rfl, hb⟩
    rw [hok]
    replace HB := hide (below_tr (unhide HB) hb)
    replace HR := hide ((unhide HR).bel hb)
    replace HP := hide ((unhide HP).bel hb)
    clear hb
    go_wp2_with fail
    refine (c40 rs ar nr cr _ (unhide HNR) (by omega) (unhide HR)).mono ?_
    rintro e w8 ⟨rfl, hb⟩
    rw [hok]
    replace HB := hide (below_tr (unhide HB) hb)
    replace HR := hide ((unhide HR).bel hb)
    replace HP := hide ((unhide HP).bel hb)
    clear hb
    go_wp2_with fail
    refine (c41 _).mono ?_
    rintro e w9 ⟨rfl, hww⟩
    have hww := hww.symm
    subst hww
    go_wp2_with fail
    go_ret
    exact ⟨rfl, unhide HB⟩
  have hn8 : nr = 8 := by rw [← unhide HNR]; exact (Tm.ownOk_iff.1 hok).1
  subst hn8
  by_cases h0 : t < 0
  case pos =>
    have e1 : ps = [] := by rw [← unhide HPS, ownProof_of hok]; exact treProof_no (by rw [leavesR_8 hok]; omega)
    subst e1
    refine (c40 rs ar 8 cr _ (unhide HNR) (by omega) (unhide HR)).mono ?_
    rintro e w7 ⟨rfl, hb⟩
    rw [hok]
    replace HB := hide (below_tr (unhide HB) hb)
    replace HR := hide ((unhide HR).bel hb)
    replace HP := hide ((unhide HP).bel hb)
    clear hb
    go_wp2_with fail
    refine (c40 rs ar 8 cr _ (unhide HNR) (by omega) (unhide HR)).mono ?_
    rintro e w8 ⟨rfl, hb⟩
    rw [hok]
    replace HB := hide (below_tr (unhide HB) hb)
    replace HR := hide ((unhide HR).bel hb)
    replace HP := hide ((unhide HP).bel hb)
    clear hb
    go_wp2_with fail
    refine (c41 _).mono ?_
    rintro e w9 ⟨rfl, hww⟩
    have hww := hww.symm
    subst hww
    go_wp2_with fail
    go_ret
    exact ⟨rfl, unhide HB⟩
  by_cases h7 : 8 ≤ t
  case pos =>
    have e1 : ps = [] := by rw [← unhide HPS, ownProof_of hok]; exact treProof_no (by rw [leavesR_8 hok]; omega)
    subst e1
    refine (c40 rs ar 8 cr _ (unhide HNR) (by omega) (unhide HR)).mono ?_
    rintro e w7 ⟨rfl, hb⟩
    rw [hok]
    replace HB := hide (below_tr (unhide HB) hb)
    replace HR := hide ((unhide HR).bel hb)
    replace HP := hide ((unhide HP).bel hb)
    clear hb
    go_wp2_with fail
    refine (c40 rs ar 8 cr _ (unhide HNR) (by omega) (unhide HR)).mono ?_
    rintro e w8 ⟨rfl, hb⟩
    rw [hok]
    replace HB := hide (below_tr (unhide HB) hb)
    replace HR := hide ((unhide HR).bel hb)
    replace HP := hide ((unhide HP).bel hb)
    clear hb
    go_wp2_with fail
    refine (c41 _).mono ?_
    rintro e w9 ⟨rfl, hww⟩
    have hww := hww.symm
    subst hww
    go_wp2_with fail
    go_ret
    exact ⟨rfl, unhide HB⟩
  obtain ⟨j, rfl⟩ := Int.eq_ofNat_of_zero_le (show 0 ≤ t by omega)
  have hj8 : j < 8 := by omega
  obtain ⟨a, c, d, hj⟩ := r_at (show j < rs.length by rw [unhide HNR]; exact hj8)
  have HJ := hide hj
  have hlo := leavesR_tre hok
  have hl8 := leavesR_8 hok
  have HFR : Hid (FitR (a, c, d)) := (unhide HR).1 _ (mem_at hj)
  have HFX : Hid (FitR (a, c, !d)) := ⟨(unhide HFR).1, (unhide HFR).2⟩
  have hpe : ps = Tm.prf (leavesR rs) j := by rw [← unhide HPS, ownProof_of hok, treProof_of ⟨hlo, by omega, by rw [hl8]; omega⟩, Int.toNat_natCast]
  have hp3 : ps.length = 3 := by rw [hpe]; exact prf3 hl8 hj8
  have hrr : rt = Tm.treRoot (leavesR rs) := by rw [← unhide HRT, ownRoot_of hok]
  have hct : Tm.ownCheck rt j (a, c, d) ps = true := by
    rw [ownCheck_of (by omega)]
    have h1 := check_prf hlo (i := j) (by rw [hl8]; exact hj8)
    rw [hl8, leavesR_at hj, ← hpe, ← hrr] at h1
    exact h1
  have hcl := clash_len (i := j) (ps := ps) (leaf := Tm.ownLeaf (j : Int) (a, c, !d)) hlo (by rw [leavesR_at hj]; exact ownLeaf_used (by omega))
  have hcx : Tm.ownCheck rt j (a, c, !d) ps = Tm.treCheck (Tm.treRoot (leavesR rs)) (leavesR rs).length j (Tm.ownLeaf (j : Int) (a, c, !d)) ps := by
    rw [ownCheck_of (by omega), hl8, hrr]; rfl
  rw [← hcx] at hcl
  have HCT := hide hct
  have HL8 := hide hl8
  have HP3 := hide hp3
  generalize hcb : Tm.ownCheck rt j (a, c, !d) ps = cb at *
  have HCB := hide hcb
  generalize hlx : Tm.ownLeaf (j : Int) (a, c, !d) = lx at *
  have HLX := hide hlx
  generalize hks : Tm.treClash (leavesR rs) j lx ps = ks at *
  have HKS := hide hks
  have hk4 : ks.length ≤ 4 := by rw [hcl]; split <;> omega
  have hkb : ((ks.length : Int) == 4) = cb := by rw [hcl]; cases cb <;> rfl
  clear hct hl8 hp3 hcb hlx hks hcx hcl hrr hpe hlo hj h0 h7
  obtain ⟨b, off, rfl, -⟩ := (unhide HR).2 (by intro e; have := unhide HNR; rw [e] at this; simp at this)
  obtain ⟨c0, c1, c2⟩ := (unhide HR).at (unhide HJ)
  refine (c40 rs _ 8 cr _ (unhide HNR) (by omega) (unhide HR)).mono ?_
  rintro e q1 ⟨rfl, hb⟩
  rw [hok]
  clear c0 c1 c2
  replace HB := hide (below_tr (unhide HB) hb)
  replace HR := hide ((unhide HR).bel hb)
  replace HP := hide ((unhide HP).bel hb)
  clear hb
  obtain ⟨c0, c1, c2⟩ := (unhide HR).at (unhide HJ)
  go_wp2_with fail
  clear c0 c1 c2
  replace HB := hide (below_al (o := .cells #[.int .i64 a, .int .i64 c, .bool (!d)] 42) (unhide HB))
  replace HR := hide ((unhide HR).bel (below_a (.cells #[.int .i64 a, .int .i64 c, .bool (!d)] 42)))
  replace HP := hide ((unhide HP).bel (below_a (.cells #[.int .i64 a, .int .i64 c, .bool (!d)] 42)))
  have HX := hide (box_new q1 [.int .i64 a, .int .i64 c, .bool (!d)] 42 (by simp [Value.oneCell']))
  have x0 := (unhide HX).cell 0 rfl
  have x1 := (unhide HX).cell 1 rfl
  have x2 := (unhide HX).cell 2 rfl
  generalize q1.alloc (.cells #[.int .i64 a, .int .i64 c, .bool (!d)] 42) = QW at *
  (try clear x0 x1 x2)
  refine wp_region_held_drew (S := fun w' => Below QW.heap.size QW w') (by kernel_rfl) (below_drew QW) (fun hHeld => ?_)
  refine wpAnyH_take (i := 0) (oi := { dst := some 67, op := _, type := _, pos := _, after := _, guard := _ }) (v := ?_) rfl (by kernel_rfl) (by kernel_rfl) (by kernel_rfl) (fun _ _ _ h => h) (Or.inl ⟨by rfl, ?_⟩) (by assumption) ?_
  rotate_left
  · intro w hSw
    first | (go_simp; done) | (go_simp; with_reducible rfl)
  try simp only [Act.put, List.setIfInBounds_toArray, List.set_cons_zero, List.set_cons_succ]
  refine wpAnyH_take (i := 2) (oi := { dst := some 69, op := _, type := _, pos := _, after := _, guard := _ }) (v := ?_) rfl (by kernel_rfl) (by kernel_rfl) (by kernel_rfl) (fun _ _ _ h => h) (Or.inl ⟨by rfl, ?_⟩) (by assumption) ?_
  rotate_left
  · intro w hSw
    first | (go_simp; done) | (go_simp; with_reducible rfl)
  try simp only [Act.put, List.setIfInBounds_toArray, List.set_cons_zero, List.set_cons_succ]
  refine wpAnyH_take (i := 3) (oi := { dst := some 70, op := _, type := _, pos := _, after := _, guard := _ }) (v := ?_) rfl (by kernel_rfl) (by kernel_rfl) (by kernel_rfl) (fun _ _ _ h => h) (Or.inl ⟨by rfl, ?_⟩) (by assumption) ?_
  rotate_left
  · intro w hSw
    first | (go_simp; done) | (go_simp; with_reducible rfl)
  try simp only [Act.put, List.setIfInBounds_toArray, List.set_cons_zero, List.set_cons_succ]
  refine wpAnyH_take (i := 4) (oi := { dst := some 71, op := _, type := _, pos := _, after := _, guard := _ }) (v := ?_) rfl (by kernel_rfl) (by kernel_rfl) (by kernel_rfl) (fun _ _ _ h => h) (Or.inl ⟨by rfl, ?_⟩) (by assumption) ?_
  rotate_left
  · intro w hSw
    have hT := (unhide HX).below hSw; have x0 := hT.cell 0 rfl; have x1 := hT.cell 1 rfl; have x2 := hT.cell 2 rfl; clear hT
    first | (go_simp; done) | (go_simp; with_reducible rfl)
  try simp only [Act.put, List.setIfInBounds_toArray, List.set_cons_zero, List.set_cons_succ]
  refine wpAnyH_take (i := 6) (oi := { dst := some 73, op := _, type := _, pos := _, after := _, guard := _ }) (v := ?_) rfl (by kernel_rfl) (by kernel_rfl) (by kernel_rfl) (fun _ _ _ h => h) (Or.inl ⟨by rfl, ?_⟩) (by assumption) ?_
  rotate_left
  · intro w hSw
    first | (go_simp; done) | (go_simp; with_reducible rfl)
  try simp only [Act.put, List.setIfInBounds_toArray, List.set_cons_zero, List.set_cons_succ]
  have HD := below_drew QW
  generalize QW.drew = V0 at *
  refine wpAnyH_ready (rs := [1]) (by kernel_rfl) (by simp) ?_
  refine AllReadyH.cons (o := { dst := some 68, op := _, type := _, pos := _, after := _, guard := _ }) rfl (fun K hK => ?_) AllReadyH.nil
  go_simp
  go_at_call 57
  refine (c57 rs _ 8 cr _ (unhide HNR) (by omega) ((unhide HR).bel HD)).mono ?_
  rintro e V1 ⟨v, rfl, ho, hb⟩
  replace HD := below_then HD hb
  clear hb
  obtain ⟨alv, clv, rfl, hclv, hlv, -⟩ := ho.row
  clear ho
  rw [unhide HL8] at hclv ⊢
  try go_wp2_with fail
  refine hK.out _ _ HD (fun hHeld => ?_)
  clear hK K hHeld
  try simp only [Act.put, List.setIfInBounds_toArray, List.set_cons_zero, List.set_cons_succ]
  refine wpAnyH_ready (rs := [5]) (by kernel_rfl) (by simp) ?_
  refine AllReadyH.cons (o := { dst := some 72, op := _, type := _, pos := _, after := _, guard := _ }) rfl (fun K hK => ?_) AllReadyH.nil
  go_simp
  go_at_call 58
  refine (c58 (j : Int) a c (!d) _ (unhide HFX)).mono ?_
  rintro e V2 ⟨rfl, hb⟩
  replace hlv := hlv.bel hb
  replace HD := below_then HD hb
  clear hb
  rw [unhide HLX]
  try go_wp2_with fail
  refine hK.out _ _ HD (fun hHeld => ?_)
  clear hK K hHeld
  try simp only [Act.put, List.setIfInBounds_toArray, List.set_cons_zero, List.set_cons_succ]
  refine wpAnyH_ready (rs := [7]) (by kernel_rfl) (by simp) ?_
  refine AllReadyH.cons (o := { dst := some 74, op := _, type := _, pos := _, after := _, guard := _ }) rfl (fun K hK => ?_) AllReadyH.nil
  go_simp
  go_at_call 56
  refine (c56 goes75' (leavesR rs) ps (j : Int) lx _ ap 8 clv ps.length cp _ (unhide HL8) rfl hclv hcp (by omega) (by omega) hlv ((unhide HP).bel HD)).mono ?_
  rintro e V3 ⟨v, rfl, ho, hb⟩
  replace hlv := hlv.bel hb
  replace HD := below_then HD hb
  clear hb
  rw [unhide HKS] at ho
  obtain ⟨ak, ck, rfl, hck, -, -⟩ := ho.row
  clear ho
  try go_wp2_with fail
  refine hK.out _ _ HD (fun hHeld => ?_)
  clear hK K hHeld
  try simp only [Act.put, List.setIfInBounds_toArray, List.set_cons_zero, List.set_cons_succ]
  refine wpAnyH_take (i := 8) (oi := { dst := some 8, op := _, type := _, pos := _, after := _, guard := _ }) (v := ?_) rfl (by kernel_rfl) (by kernel_rfl) (by kernel_rfl) (fun _ _ _ h => h) (Or.inl ⟨by rfl, ?_⟩) (by assumption) ?_
  rotate_left
  · intro w hSw
    first | (go_simp; done) | (go_simp; with_reducible rfl)
  try simp only [Act.put, List.setIfInBounds_toArray, List.set_cons_zero, List.set_cons_succ]
  refine wpAnyH_done (by kernel_rfl) ?_ _
  replace HB := hide (below_tr (unhide HB) HD)
  replace HR := hide ((unhide HR).bel HD)
  replace HP := hide ((unhide HP).bel HD)
  replace HX := hide ((unhide HX).bel HD)
  have Hhlv := hide hlv
  clear HD hlv
  have x0 := (unhide HX).cell 0 rfl
  have x1 := (unhide HX).cell 1 rfl
  have x2 := (unhide HX).cell 2 rfl
  obtain ⟨c0, c1, c2⟩ := (unhide HR).at (unhide HJ)
  go_wp2_with fail
  refine (c59 ps rt (j : Int) a c d ap ps.length cp _ rfl hcp (by omega) (unhide HFR) (unhide HP)).mono ?_
  rintro e q2 ⟨rfl, hb⟩
  rw [unhide HCT]
  clear c0 c1 c2
  (try clear x0 x1 x2)
  replace HB := hide (below_tr (unhide HB) hb)
  replace HR := hide ((unhide HR).bel hb)
  replace HP := hide ((unhide HP).bel hb)
  replace HX := hide ((unhide HX).bel hb)
  replace Hhlv := hide ((unhide Hhlv).bel hb)
  clear hb
  have x0 := (unhide HX).cell 0 rfl
  have x1 := (unhide HX).cell 1 rfl
  have x2 := (unhide HX).cell 2 rfl
  go_wp2_with fail
  refine (c59 ps rt (j : Int) a c (!d) ap ps.length cp _ rfl hcp (by omega) (unhide HFX) (unhide HP)).mono ?_
  rintro e q3 ⟨rfl, hb⟩
  rw [unhide HCB]
  (try clear x0 x1 x2)
  replace HB := hide (below_tr (unhide HB) hb)
  replace HR := hide ((unhide HR).bel hb)
  replace HP := hide ((unhide HP).bel hb)
  replace HX := hide ((unhide HX).bel hb)
  replace Hhlv := hide ((unhide Hhlv).bel hb)
  clear hb
  have x0 := (unhide HX).cell 0 rfl
  have x1 := (unhide HX).cell 1 rfl
  have x2 := (unhide HX).cell 2 rfl
  have hp3 := unhide HP3
  go_wp2_with fail
  go_ret
  exact ⟨rfl, unhide HB⟩
end Go.Proofs.Ytimaidcjccakeaa
