/-
  The draw of purses.
-/
import Derived.Test.YtmlbphmbffkdnaaMona
namespace Go.Proofs.Ytmlbphmbffkdnaa
open Go.RowKit
set_option linter.unusedVariables false
set_option maxRecDepth 100000

/-- a number out of a list that is written out -/
theorem lit_val {w2 : World} {g : Nat} {l : List Int} {z : Int} (hl : ∀ j v, ((l.map (Value.int .i64)).toArray)[j]? = some v → w2.cell? ⟨g, j, none⟩ = some v) (hz : 0 ≤ z) (hz2 : z < l.length) :
    ∃ (j : Nat) (y : Int), z = (j : Int) ∧ j < l.length ∧ y ∈ l ∧ w2.cell? ⟨g, j, none⟩ = some (.int .i64 y) := by
  have hj : z.toNat < l.length := by omega
  refine ⟨z.toNat, l[z.toNat], by omega, hj, List.getElem_mem hj, hl _ _ ?_⟩
  simp [hj]
/-- what a draw of a list leaves that may be cut: it can be read, and lies in new memory -/
def Prs (w : World) (r k m : Nat) (e : Ending) (w' : World) : Prop :=
  ∃ (ao : Option Addr) (n cap : Nat) (zs : List Int), e = .returned (.slice ao n cap) ∧ zs.length = n ∧ n ≤ m ∧ n ≤ cap ∧ (ao = none → cap = 0) ∧ Row w' ao zs ∧ (∀ a, ao = some a → w.heap.size ≤ a.block) ∧ Rd w' r k ∧ w.grownBy w' (some r)
theorem prs_own {w w' : World} {r k m : Nat} {v : Value} {zs : List Int} (h : Own w' w.heap.size v zs) (hl : zs.length ≤ m) (hr : Rd w' r k) (hg : w.grownBy w' (some r)) : Prs w r k m (.returned v) w' := by
  obtain ⟨ao, cap, rfl, hc, hrow, hb⟩ := h.row
  refine ⟨ao, zs.length, cap, zs, rfl, rfl, hl, hc, ?_, hrow, fun a ha => (hb a ha).1, hr, hg⟩
  intro e; subst e; exact own_cap0 h

/-- what is written into new memory alone leaves all that was there but the reader -/
theorem grown_new {w w1 w2 : World} {r g : Nat} (h : w.grownBy w1 (some r)) (h2 : w1.grownBy w2 (some g)) (hg : w.heap.size ≤ g) : w.grownBy w2 (some r) :=
  ⟨h2.os.trans h.os, h2.tape.trans h.tape, h2.output.trans h.output, Nat.le_trans h.size h2.size, fun i hi hr => (h2.block i (Nat.lt_of_lt_of_le hi h.size) (fun e => by cases e; omega)).trans (h.block i hi hr)⟩

set_option maxHeartbeats 4000000 in
theorem c103 (r k : Nat) (n : Int) (w : World) (hk : k ≤ 1000000) (hn : 1 ≤ n ∧ n ≤ 1000000) (h : Rd w r k) :
    Calls Try.prog 103 #[.pointer (some ⟨r, 0, none⟩), .int .i64 n] w (Prs w r (k + 10) 6) := by
  have hrl := h.lt
  have HE := hide (own_empty w w.heap.size (Nat.le_refl _))
  have H := hide (h.alloc (.cells #[] 3))
  have HG0 := hide (World.grownBy_alloc w (.cells #[] 3) (some r))
  have HN := hide hn
  clear h hn
  obtain ⟨i0, hi, hz0, hz1, hz2⟩ := info_parts Try.info3
  go_enter Try.func103, Try.ntmps103
  go_wp2_with fail
  go_loopw [5, 6] (fun v j wr => ∃ (zs : List Int) (J : Nat), j = .int .i64 J ∧ J ≤ 5 ∧ zs.length = J ∧ Own wr w.heap.size v zs ∧ Rd wr r (k + J) ∧ w.grownBy wr (some r)) (fun _ j _ => 5 - (intOf j).toNat)
  case atStart => exact ⟨[], 0, rfl, by omega, rfl, unhide HE, unhide H, unhide HG0⟩
  case round =>
    obtain ⟨zs, J, rfl, hJ, hlen, ho, hr, hg⟩ := hrel
    have hws : w.heap.size ≤ wr.heap.size := hg.size
    have HO := hide ho
    have HR := hide hr
    have HG := hide hg
    have HLN := hide hlen
    clear ho hr hg HE H HG0
    by_cases hlt : J < 5
    · go_wp2_with fail
      refine (pick_lit r (k + J) 4 _ _ (by omega) (by omega) (unhide HR)).mono ?_
      rintro e w2 ⟨z, rfl, hz, hz2', hr, hg, hl⟩
      obtain ⟨zN, y, rfl, hzN, hy, hcy⟩ := lit_val (l := [0, 30, 100, 1000]) hl hz (by simpa using hz2')
      have hyf : -9223372036854775808 ≤ y ∧ y ≤ 9223372036854775807 := by simp at hy; omega
      have HYF := hide hyf
      have HO2 := hide ((unhide HO).keptR hg hrl)
      have hws2 : w.heap.size ≤ w2.heap.size := Nat.le_trans hws hg.size
      have HR2 := hide hr
      have HG2 := hide (grown_trans (unhide HG) hg)
      clear hr hg hl HO HR HG hy hyf
      go_wp2_with (first | (at_builtin; refine wpList_append_own _ rfl _ _ 23 rfl w.heap.size 3 i0 (.int .i64 0) 1 8 Try.underlying23 hi hz0 hz1 hz2 rfl (by decide) _ _ _ rfl ((unhide HO2).2.alloc _) ⟨w2.heap.size, 0, none⟩ 1 1 [.int .i64 y] rfl rfl (cell_one_new _ _ _) (by simp [Value.oneCell']) (by unfold maxLen; omega) (by omega) (by simp; omega) ?_; intro v' w9 hown' hgrow _) | fail)
      have HO4 := hide (own_snoc (unhide HO2).1 (unhide HYF) hown')
      have HR4 := hide ((unhide HR2).own (unhide HO2) hrl hgrow)
      have HG4 := hide (grown_own (unhide HO2) (unhide HG2) (Nat.le_refl _) hgrow)
      clear hown' hgrow HO2 HR2 HG2
      go_wp2_with fail
      go_roundw
      case rel => exact ⟨zs ++ [y], J + 1, by go_num, by omega, by simp; exact HLN.out, unhide HO4, unhide HR4, unhide HG4⟩
      case measure => simp [intOf]; omega
    · have hJ5 : J = 5 := by omega
      subst hJ5
      clear hlen
      go_wp2_with fail
      refine (c116 r (k + 5) n _ (by omega) (unhide HN) (unhide HR)).mono ?_
      rintro e w3 ⟨b, rfl, hr, hg⟩
      have hws3 : w.heap.size ≤ w3.heap.size := Nat.le_trans hws hg.size
      have HO3 := hide ((unhide HO).keptR hg hrl)
      have HR3 := hide hr
      have HG3 := hide (grown_trans (unhide HG) hg)
      clear hr hg HO HR HG
      cases b
      · go_wp2_with fail
        go_ret
        exact prs_own (unhide HO3) (by have := HLN.out; omega) ((unhide HR3).mono (by omega)) (unhide HG3)
      go_wp2_with fail
      refine (c123 r (k + 5 + 1) 4 _ (by omega) (unhide HR3)).mono ?_
      rintro e w4 ⟨q, rfl, hq, hq2, hr, hg⟩
      have hws4 : w.heap.size ≤ w4.heap.size := Nat.le_trans hws3 hg.size
      have HO4 := hide ((unhide HO3).keptR hg hrl)
      have HR4 := hide hr
      have HG4 := hide (grown_trans (unhide HG3) hg)
      clear hr hg HO3 HR3 HG3 hq2
      obtain ⟨ao1, cap1, rfl, hcap1, hr1, hbl1⟩ := (unhide HO4).row
      obtain ⟨g, rfl⟩ := own_ne (unhide HO4) (by intro e; have := HLN.out; subst e; simp at this)
      have hgb : w.heap.size ≤ g := (hbl1 _ rfl).1
      have hg4 : g < w4.heap.size := (hbl1 _ rfl).2
      clear hr1 hbl1
      have hc5 : (5 : Nat) ≤ cap1 := by have := HLN.out; omega
      clear hcap1
      rw [HLN.out] at HO4
      rw [HLN.out]
      by_cases h0 : q = 0
      · subst h0
        go_wp2_with fail
        refine (c123 r (k + 5 + 1 + 1) 5 _ (by omega) (unhide HR4)).mono ?_
        rintro e w5 ⟨j0, rfl, hj0, hj1, hr, hg⟩
        have hj1 : j0 < 5 := hj1 (by omega)
        obtain ⟨jN, rfl⟩ := Int.eq_ofNat_of_zero_le hj0
        have hws5 : w.heap.size ≤ w5.heap.size := Nat.le_trans hws4 hg.size
        have HO5 := hide ((unhide HO4).keptR hg hrl)
        have HR5 := hide hr
        have HG5 := hide (grown_trans (unhide HG4) hg)
        clear hr hg HO4 HR4 HG4
        go_wp2_with fail
        refine (pick_lit r (k + 5 + 1 + 1 + 1) 3 _ _ (by omega) (by omega) (unhide HR5)).mono ?_
        rintro e w6 ⟨z, rfl, hz, hz2', hr, hg, hl⟩
        obtain ⟨zN, y, rfl, hzN, hy, hcy⟩ := lit_val (l := [-1, 100001, 9223372036854775807]) hl hz (by simpa using hz2')
        have hyf : -9223372036854775808 ≤ y ∧ y ≤ 9223372036854775807 := by simp at hy; omega
        have hO6 := (unhide HO5).keptR hg hrl
        have hcl := own_cell hO6 HLN.out (j := jN) (by have := HLN.out; omega)
        obtain ⟨hc6, hf6⟩ := hcl
        have HST := hide (own_set (j := jN) (x := y) hO6 HLN.out hyf)
        have HR6 := hide hr
        have HG6 := hide (grown_trans (unhide HG5) hg)
        clear hr hg hl HO5 HR5 HG5 hy hyf hO6
        go_wp2_with fail
        go_ret
        have hst := unhide HST
        refine prs_own hst.1 (by rw [List.length_set]; have := HLN.out; omega) (((unhide HR6).kept hst.2 (fun b hb => by cases hb; omega)).mono (by omega)) (grown_new (unhide HG6) hst.2 hgb)
      have q0 : (q == 0) = false := by simpa using h0
      by_cases h1 : q = 1
      · subst h1
        have hcc : ¬ ((cap1 : Int) = 1) := by omega
        have hcc2 : ¬ (cap1 = 1) := by omega
        have HZ : Hid (Row w4 (some ⟨g, 0 + 1, none⟩) (zs.drop 1)) := (own_rowI (unhide HO4)).drop 1
        go_wp2_with fail
        go_ret
        exact ⟨_, _, _, zs.drop 1, rfl, by rw [List.length_drop, HLN.out], by omega, by omega, by simp, unhide HZ, fun a ha => by cases ha; exact hgb, (unhide HR4).mono (by omega), unhide HG4⟩
      have q1 : (q == 1) = false := by simpa using h1
      by_cases h2 : q = 2
      · subst h2
        have hcl := own_cell (unhide HO4) HLN.out (j := 0) (by have := HLN.out; omega)
        obtain ⟨hc6, hf6⟩ := hcl
        have HST := hide (own_set (j := 0) (x := 100000) (unhide HO4) HLN.out (by omega))
        go_wp2_with fail
        go_ret
        have hst := unhide HST
        refine prs_own hst.1 (by rw [List.length_set]; have := HLN.out; omega) (((unhide HR4).kept hst.2 (fun b hb => by cases hb; omega)).mono (by omega)) (grown_new (unhide HG4) hst.2 hgb)
      have q2 : (q == 2) = false := by simpa using h2
      rw [← HLN.out] at HO4
      rw [← HLN.out]
      clear hc5
      have hz5 : zs.length ≤ 5 := by have := HLN.out; omega
      go_wp2_with (first | (at_builtin; refine wpList_append_own _ rfl _ _ 23 rfl w.heap.size 3 i0 (.int .i64 0) 1 8 Try.underlying23 hi hz0 hz1 hz2 rfl (by decide) _ _ _ rfl ((unhide HO4).2.alloc _) ⟨w4.heap.size, 0, none⟩ 1 1 [.int .i64 1] rfl rfl (cell_one_new _ _ _) (by simp [Value.oneCell']) (by unfold maxLen; omega) (by omega) (by simp; omega) ?_; intro v' w9 hown' hgrow _) | fail)
      have HO5 := hide (own_snoc (unhide HO4).1 (by omega) hown')
      have HR5 := hide ((unhide HR4).own (unhide HO4) hrl hgrow)
      have HG5 := hide (grown_own (unhide HO4) (unhide HG4) (Nat.le_refl _) hgrow)
      clear hown' hgrow HO4 HR4 HG4
      go_wp2_with fail
      go_ret
      exact prs_own (unhide HO5) (by simp; have := HLN.out; omega) ((unhide HR5).mono (by omega)) (unhide HG5)
end Go.Proofs.Ytmlbphmbffkdnaa
