/-
  The walk of the law FnOwnLeaf: at every code it answers true, and nothing that was there is written.
-/
import Derived.Test.YtjdnengmllamcaaDrw
import Derived.Test.YtjdnengmllamcaaOwna
namespace Go.Proofs.Ytjdnengmllamcaa
open Go.RowKit
set_option linter.unusedVariables false
set_option maxRecDepth 100000

theorem leaf_who : ∀ (t : Fin 8) (a : Fin 7) (c : Fin 5) (d : Bool), Tm.leaf [1000 + (t.val : Int), (a.val : Int) - 1 + 1, [0, 10, 50, 51, -1].getD c.val 0, usedI d] ≠ Tm.leaf [1000 + (t.val : Int), (a.val : Int) - 1, [0, 10, 50, 51, -1].getD c.val 0, usedI d] := by decide +kernel
theorem ownLeaf_who {t a c : Int} {d : Bool} (ht : 0 ≤ t ∧ t ≤ 7) (ha : -1 ≤ a ∧ a ≤ 5) (hc : c ∈ [0, 10, 50, 51, -1]) : Tm.ownLeaf t (a + 1, c, d) ≠ Tm.ownLeaf t (a, c, d) := by
  rw [ownLeaf_of ht, ownLeaf_of ht]
  obtain ⟨i, hi, rfl⟩ := List.getElem_of_mem hc
  have h := leaf_who ⟨t.toNat, by omega⟩ ⟨(a + 1).toNat, by omega⟩ ⟨i, by simpa using hi⟩ d
  have e1 : ((t.toNat : Nat) : Int) = t := by omega
  have e2 : (((a + 1).toNat : Nat) : Int) - 1 = a := by omega
  have e3 : ([0, 10, 50, 51, -1] : List Int).getD i 0 = ([0, 10, 50, 51, -1] : List Int)[i] := by rw [List.getD_eq_getElem?_getD, List.getElem?_eq_getElem hi]; rfl
  dsimp only at h
  rw [e1, e2, e3] at h
  exact h

set_option maxHeartbeats 4000000 in
theorem law11 (bs : List Int) (ao : Option Addr) (n cap : Nat) (w : World) (hn : bs.length = n) (hc : n ≤ cap) (hm : cap ≤ maxLen) (hB : Bytes w ao bs) :
    Calls Try.prog 11 #[.slice ao n cap] w (Holds w) := by
  have HM := hide hm
  unfold maxLen at hm
  have HB := hide hB
  have HN := hide hn
  clear hB hn
  by_cases hbig : (1048576 : Int) < (n : Int)
  · go_enter Try.func11, Try.ntmps11
    go_wp2_with fail
    go_ret
    exact ⟨rfl, Below.refl _ _⟩
  go_enter Try.func11, Try.ntmps11
  go_wp2_with fail
  refine (c68 bs ao n cap _ HN.out hc (unhide HM) (unhide HB)).mono ?_
  rintro e w1 ⟨t, a, c, d, rfl, ht, ha, hcc, hb1⟩
  have HF : Hid (FitR (a, c, d)) := ⟨⟨by show _ ≤ a; omega, by show a ≤ _; omega⟩, by show _ ≤ c; simp at hcc; omega, by show c ≤ _; simp at hcc; omega⟩
  have hX := box_new w1 [.int .i64 a, .int .i64 c, .bool d] 47 (by simp [Value.oneCell'])
  have HX := hide hX
  have HB1 := hide (below_al (o := .cells #[.int .i64 a, .int .i64 c, .bool d] 47) hb1)
  have HT := hide ht
  have HC := hide hcc
  obtain ⟨a1, a2⟩ := ha
  clear hb1 hX ht hcc HB HN HM hbig hc hm
  go_wp2_with fail
  refine (c61 t a c d _ (unhide HF)).mono ?_
  rintro e w2 ⟨rfl, hb2⟩
  have hX2 := (unhide HX).below hb2
  have HX2 := hide hX2
  have x0 := hX2.cell 0 rfl
  have x1 := hX2.cell 1 rfl
  have x2 := hX2.cell 2 rfl
  have HB2 := hide (below_tr (unhide HB1) hb2)
  clear hb2 hX2 HX HB1
  generalize hy : Tm.ownLeaf t (a, c, d) = y at *
  have HY := hide hy
  clear hy
  go_wp2_with fail
  refine (c69 t a c d _ (unhide HF)).mono ?_
  rintro e w3 ⟨rfl, hb3⟩
  rw [unhide HY]
  have hX3 := (unhide HX2).below hb3
  have HX3 := hide hX3
  clear x0 x1 x2
  have x0 := hX3.cell 0 rfl
  have x1 := hX3.cell 1 rfl
  have x2 := hX3.cell 2 rfl
  have HB3 := hide (below_tr (unhide HB2) hb3)
  clear hb3 HX2 HB2
  by_cases h7 : 0 ≤ t ∧ t ≤ 7
  · have hne := ownLeaf_who (d := d) h7 ⟨a1, a2⟩ (unhide HC)
    rw [unhide HY] at hne
    have hok : Tm.okB y = true := by rw [← unhide HY, ownLeaf_of h7]; exact Tm.leaf_ok _
    have d1 : ¬ (t < 0) := by omega
    have d2 : ¬ (8 ≤ t) := by omega
    have HF2 : Hid (FitR (a + 1, c, d)) := ⟨⟨by show _ ≤ a + 1; omega, by show a + 1 ≤ _; omega⟩, (unhide HF).2⟩
    have hX4 := hX3.alloc (.cells #[.int .i64 a, .int .i64 c, .bool d] 47)
    have z0 := hX4.cell 0 rfl
    have HNE := hide hne
    have HXW := hide (below_al (o := .cells #[.int .i64 a, .int .i64 c, .bool d] 47) (unhide HB3))
    have hs3 : w.heap.size ≤ w3.heap.size := (unhide HB3).size
    clear hne h7 hX3 hX4
    go_wp2_with (go_at_call 34; refine (c34 _ _).mono ?_; rintro e w' ⟨rfl, rfl⟩)
    refine (c61 t (a + 1) c d _ (unhide HF2)).mono ?_
    rintro e w5 ⟨rfl, hb5⟩
    have hy2 : (Tm.ownLeaf t (a + 1, c, d) != y) = true := by rw [bne_iff_ne]; exact unhide HNE
    have HB5 := hide hb5
    clear hb5
    go_wp2_with fail
    go_ret
    exact ⟨rfl, below_tr (by first | exact unhide HXW | exact (unhide HXW).setCell (p := ⟨_, 0, none⟩) (by exact hs3) _ | exact below_al (unhide HB3)) (unhide HB5)⟩
  · have h0 : y = 0 := by rw [← unhide HY]; exact ownLeaf_no h7
    subst h0
    have ht := unhide HT
    by_cases hl : t < 0
    · have d1 : decide (t < 0) = true := by simpa using hl
      clear ht h7 hX3
      go_wp2_with (go_at_call 40; refine (c40 _).mono ?_; rintro e w' ⟨rfl, rfl⟩)
      go_ret
      exact ⟨rfl, unhide HB3⟩
    · have d1 : decide (t < 0) = false := by simpa using hl
      have d2 : decide (8 ≤ t) = true := by simp; omega
      have d3 : 8 ≤ t := by omega
      clear ht h7 hX3
      go_wp2_with (go_at_call 40; refine (c40 _).mono ?_; rintro e w' ⟨rfl, rfl⟩)
      go_ret
      exact ⟨rfl, unhide HB3⟩
end Go.Proofs.Ytjdnengmllamcaa
