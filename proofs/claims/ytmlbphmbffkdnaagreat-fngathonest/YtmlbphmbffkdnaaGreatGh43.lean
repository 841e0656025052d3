/-
  Texts of the proof, what it needs of them: Ownc, Lawsor, Dgs.
-/
import Derived.Test.YtmlbphmbffkdnaaGreatGh09
import Derived.Test.YtmlbphmbffkdnaaGreatGh10
import Derived.Test.YtmlbphmbffkdnaaGreatGh25
import Derived.Test.YtmlbphmbffkdnaaGreatGh28
import Derived.Test.YtmlbphmbffkdnaaGreatGh38
import Derived.Test.YtmlbphmbffkdnaaGreatGh39
import Derived.Test.YtmlbphmbffkdnaaGreatGh41
import Derived.Test.YtmlbphmbffkdnaaGreatGh42
namespace Go.Proofs.YtmlbphmbffkdnaaGreat
open Go.RowKit
set_option linter.unusedVariables false
set_option maxRecDepth 100000

def Tm.ownCheck (root t : Int) (r : Tm.Rw) (ps : List Int) : Bool := if 0 ≤ t ∧ t ≤ 7 then Tm.treCheck root 8 t (Tm.ownLeaf t r) ps else false
theorem ownCheck_of {root t : Int} {r : Tm.Rw} {ps : List Int} (h : 0 ≤ t ∧ t ≤ 7) : Tm.ownCheck root t r ps = Tm.treCheck root 8 t (Tm.ownLeaf t r) ps := by unfold Tm.ownCheck; rw [if_pos h]
theorem ownCheck_no {root t : Int} {r : Tm.Rw} {ps : List Int} (h : ¬ (0 ≤ t ∧ t ≤ 7)) : Tm.ownCheck root t r ps = false := by unfold Tm.ownCheck; rw [if_neg h]

set_option maxHeartbeats 800000 in
theorem c12 (ps : List Int) (root t a c : Int) (d : Bool) (ao : Option Addr) (n cap : Nat) (w : World) (hn : ps.length = n) (hcap : n ≤ cap) (hm : n ≤ 1048576) (hf : FitR (a, c, d)) (hr : Row w ao ps) :
    Calls Tryz.prog 12 #[.int .i64 root, .int .i64 t, rowV a c d, .slice ao n cap] w fun e w' => e = .returned (.bool (Tm.ownCheck root t (a, c, d) ps)) ∧ Below w.heap.size w w' := by
  have HF := hide hf
  have HR := hide hr
  have HN := hide hn
  clear hf hr hn
  by_cases h0 : 0 ≤ t ∧ t ≤ 7
  · have HE := hide (ownCheck_of (root := root) (r := (a, c, d)) (ps := ps) h0)
    have d0 : decide (0 ≤ t ∧ t ≤ 7) = true := by simpa using h0
    clear h0
    go_enter Tryz.func12, Tryz.ntmps12
    go_wp2_with (go_at_call 47; refine (c47 _ _).mono ?_; rintro e w' ⟨rfl, rfl⟩)
    refine (c19 t a c d _ (unhide HF)).mono ?_
    rintro e w1 ⟨rfl, hb1⟩
    have HB1 := hide (below_tr (below_a _) hb1)
    clear hb1
    generalize hy : Tm.ownLeaf t (a, c, d) = y at *
    have HY := hide hy
    clear hy
    go_wp2_with fail
    refine (c48 ps root 8 t y ao n cap _ HN.out hcap hm ((unhide HR).bel (unhide HB1))).mono ?_
    rintro e w2 ⟨rfl, hb2⟩
    have HB2 := hide (below_tr (unhide HB1) hb2)
    clear hb2 HB1
    generalize hz : Tm.treCheck root 8 t y ps = z at *
    have HZ := hide hz
    clear hz
    go_wp2_with fail
    go_ret
    exact ⟨ret_bool (by rw [unhide HE]), unhide HB2⟩
  · have HE := hide (ownCheck_no (root := root) (r := (a, c, d)) (ps := ps) h0)
    have d0 : decide (0 ≤ t ∧ t ≤ 7) = false := by simpa using h0
    clear h0
    go_enter Tryz.func12, Tryz.ntmps12
    go_wp2_with (go_at_call 47; refine (c47 _ _).mono ?_; rintro e w' ⟨rfl, rfl⟩)
    go_ret
    exact ⟨ret_bool (unhide HE).symm, below_a _⟩

set_option maxHeartbeats 800000 in
theorem c42 (ps : List Int) (root t a c : Int) (d : Bool) (ao : Option Addr) (n cap : Nat) (w : World) (hn : ps.length = n) (hcap : n ≤ cap) (hm : n ≤ 1048576) (hf : FitR (a, c, d)) (hr : Row w ao ps) :
    Calls Tryz.prog 42 #[.int .i64 root, .int .i64 t, rowV a c d, .slice ao n cap] w fun e w' => e = .returned (.bool (Tm.ownCheck root t (a, c, d) ps)) ∧ Below w.heap.size w w' := by
  have HF := hide hf
  have HR := hide hr
  have HN := hide hn
  clear hf hr hn
  by_cases h0 : 0 ≤ t ∧ t ≤ 7
  · have HE := hide (ownCheck_of (root := root) (r := (a, c, d)) (ps := ps) h0)
    have d0 : decide (0 ≤ t ∧ t ≤ 7) = true := by simpa using h0
    clear h0
    go_enter Tryz.func42, Tryz.ntmps42
    go_wp2_with (go_at_call 40; refine (c40 _ _ _ _).mono ?_; rintro e w' ⟨rfl, rfl⟩)
    refine (c80 t a c d _ (unhide HF)).mono ?_
    rintro e w1 ⟨rfl, hb1⟩
    have HB1 := hide (below_tr (below_a _) hb1)
    clear hb1
    generalize hy : Tm.ownLeaf t (a, c, d) = y at *
    have HY := hide hy
    clear hy
    go_wp2_with fail
    refine (c79 ps root 8 t y ao n cap _ HN.out hcap hm ((unhide HR).bel (unhide HB1))).mono ?_
    rintro e w2 ⟨rfl, hb2⟩
    subst hb2
    have HB2 := HB1
    clear HB1
    generalize hz : Tm.treCheck root 8 t y ps = z at *
    have HZ := hide hz
    clear hz
    go_wp2_with fail
    go_ret
    exact ⟨ret_bool (by rw [unhide HE]), unhide HB2⟩
  · have HE := hide (ownCheck_no (root := root) (r := (a, c, d)) (ps := ps) h0)
    have d0 : decide (0 ≤ t ∧ t ≤ 7) = false := by simpa using h0
    clear h0
    go_enter Tryz.func42, Tryz.ntmps42
    go_wp2_with (go_at_call 40; refine (c40 _ _ _ _).mono ?_; rintro e w' ⟨rfl, rfl⟩)
    go_ret
    exact ⟨ret_bool (unhide HE).symm, below_a _⟩

end Go.Proofs.YtmlbphmbffkdnaaGreat
namespace Go.Proofs.YtmlbphmbffkdnaaGreat
open Go.RowKit
set_option linter.unusedVariables false
set_option maxRecDepth 100000

set_option maxHeartbeats 2000000 in
theorem c21 (rs : List Tm.Rw) (ao : Option Addr) (n cap : Nat) (w : World) (hn : rs.length = n) (hm : n ≤ 1048576) (hr : RRow w ao rs) : Calls Tryz.prog 21 #[.slice ao n cap] w (Told w (leavesR rs)) := by
  subst hn
  obtain ⟨hfit, hr⟩ := hr
  obtain ⟨i0, hi, hz0, hz1, hz2⟩ := info_parts Tryz.info3
  have HO := hide (own_empty w w.heap.size (Nat.le_refl _))
  have HR := hide hr
  have HF := hide hfit
  clear hr hfit
  go_enter Tryz.func21, Tryz.ntmps21
  go_wp2_with fail
  go_loopw [3, 4] (fun v i wr => ∃ k : Nat, k ≤ rs.length ∧ i = .int .i64 k ∧ Own wr w.heap.size v (lvTo rs k) ∧ Below w.heap.size w wr) (fun _ i _ => rs.length - (intOf i).toNat)
  case atStart => exact ⟨0, Nat.zero_le _, rfl, unhide HO, below_a _⟩
  case round =>
    obtain ⟨k, hk, rfl, hown, hbel⟩ := hrel
    by_cases hlt : k < rs.length
    · obtain ⟨b, off, rfl, hc⟩ := unhide HR (by intro e; subst e; simp at hlt)
      obtain ⟨x0, x1, x2, hx⟩ := r_at hlt
      obtain ⟨g0, g1, g2⟩ := r_cells hbel hc hx
      have hlen := lvTo_len rs k
      have HT := hide (lvTo_succ hx)
      have HX : Hid (FitR (x0, x1, x2)) := unhide HF _ (List.mem_of_getElem? hx)
      have HOW := hide hown
      have HBE := hide hbel
      clear hown hbel hc hx HO
      generalize lvTo rs k = zs at *
      have HN := hide (ownLeaf_fits (k : Int) (x0, x1, x2))
      go_wp2_with fail
      refine (c19 (k : Int) x0 x1 x2 _ (unhide HX)).mono ?_
      rintro e w2 ⟨rfl, hb2⟩
      have HB2 := hide (below_tr (unhide HBE) hb2)
      have HO2 := hide ((unhide HOW).below hb2)
      clear hb2 HOW
      generalize hy : Tm.ownLeaf (k : Int) (x0, x1, x2) = y at *
      have HY := hide hy
      clear hy
      go_wp2_with (first | (at_builtin; refine wpList_append_own _ rfl _ _ 25 rfl w.heap.size 3 i0 (.int .i64 0) 1 8 Tryz.underlying25 hi hz0 hz1 hz2 rfl (by decide) _ _ _ rfl ((unhide HO2).2.alloc _) ⟨w2.heap.size, 0, none⟩ 1 1 [.int .i64 y] rfl rfl (cell_one_new _ _ _) (by simp [Value.oneCell']) (by unfold maxLen; omega) (by omega) (by have := (unhide HB2).size; simp; omega) ?_; intro v' w4 hown' hgrow _) | fail)
      have hfin := own_fin2 (unhide HB2) (unhide HO2) (unhide HN) hown' hgrow
      have H1 := hide hfin
      clear hfin hown' hgrow
      go_wp2_with fail
      go_roundw
      case rel => exact ⟨k + 1, by omega, by go_num, by rw [unhide HT]; exact (unhide H1).1, (unhide H1).2⟩
      case measure => simp [intOf]; omega
    · have hke : k = rs.length := by omega
      subst hke
      have HRS : Hid (leavesR rs = lvTo rs rs.length) := rfl
      have H1 := hide hown
      have H2 := hide hbel
      clear hown hbel
      go_wp2_with fail
      go_ret
      exact ⟨_, rfl, by rw [unhide HRS]; exact unhide H1, unhide H2⟩

theorem goes75' : Goes75 := fun f l ps i leaf p bo m cap' w h1 h2 h3 h4 h5 h6 => c65 f l ps i leaf p bo m cap' w h1 h2 h3 h4 h5 h6
theorem RRow.at {w : World} {b off j : Nat} {rs : List Tm.Rw} {a c : Int} {d : Bool} (h : RRow w (some ⟨b, off, none⟩) rs) (hj : rs[j]? = some (a, c, d)) :
    w.cell? ⟨b, off + j * 3, none⟩ = some (.int .i64 a) ∧ w.cell? ⟨b, off + j * 3 + 1, none⟩ = some (.int .i64 c) ∧ w.cell? ⟨b, off + j * 3 + 2, none⟩ = some (.bool d) := by
  obtain ⟨b', off', he, hc⟩ := h.2 (by intro e; subst e; simp at hj)
  cases he
  exact r_cells (Below.refl _ _) hc hj
theorem leavesR_at {rs : List Tm.Rw} {j : Nat} {r : Tm.Rw} (hj : rs[j]? = some r) : (leavesR rs).getD j 0 = Tm.ownLeaf (j : Int) r := by
  have hl := lt_of_get hj
  have h2 : rs[j] = r := by rw [List.getElem?_eq_getElem hl] at hj; exact Option.some.inj hj
  unfold leavesR lvTo
  simp [List.getD, hl, h2]
end Go.Proofs.YtmlbphmbffkdnaaGreat
namespace Go.Proofs.YtmlbphmbffkdnaaGreat
open Go.RowKit
set_option linter.unusedVariables false
set_option maxRecDepth 100000

theorem rowa_young {w : World} {base g : Nat} {ao : Option Addr} {ps : List Int} (h : RowA w base ao ps) (hy : ∀ a, ao = some a → a.block < g) (i : Nat) (v : Value) : RowA (w.setCell ⟨g, i, none⟩ v) base ao ps := ⟨h.1.kpt (grown_cel w g i v) (fun a ha e => by have := hy a ha; simp only [Option.some.injEq] at e; omega), h.2⟩
end Go.Proofs.YtmlbphmbffkdnaaGreat
