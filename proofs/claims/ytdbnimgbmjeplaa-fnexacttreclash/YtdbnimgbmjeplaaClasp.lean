/-
  The walks of TreClash, the model's and (given that of its clash) the program's, and of the model's draw for it.
-/
import Derived.Test.YtdbnimgbmjeplaaClash
import Derived.Test.YtdbnimgbmjeplaaDrawe
namespace Go.Proofs.Ytdbnimgbmjeplaa
open Go.RowKit
set_option linter.unusedVariables false

theorem treClash_no {l : List Int} {i leaf : Int} {ps : List Int} (h : ¬ (Tm.treOk l = true ∧ Tm.treCheck (Tm.treRoot l) l.length i leaf ps = true ∧ leaf ≠ l.getD i.toNat 0)) : Tm.treClash l i leaf ps = [] := by unfold Tm.treClash; rw [if_neg h]
theorem treClash_of {l : List Int} {i leaf : Int} {ps : List Int} (h : Tm.treOk l = true ∧ Tm.treCheck (Tm.treRoot l) l.length i leaf ps = true ∧ leaf ≠ l.getD i.toNat 0) : Tm.treClash l i leaf ps = Tm.clash l.length l i leaf ps := by unfold Tm.treClash; rw [if_pos h]
theorem check_in {root n i leaf : Int} {ps : List Int} (h : Tm.treCheck root n i leaf ps = true) : 0 ≤ i ∧ i < n := by
  unfold Tm.treCheck at h
  rcases hu : Tm.treUp n i leaf ps with _ | y
  · rw [hu] at h; simp at h
  · have := (Tm.upc hu).1; omega
theorem told_none {w W : World} (hb : Below w.heap.size w W) : Told w [] (.returned (.slice (some ⟨W.heap.size, 0, none⟩) 0 0)) (W.alloc (.cells #[] 3)) :=
  ⟨_, rfl, own_empty W w.heap.size hb.size, hb.alloc hb.size _⟩
theorem told_nil {w W : World} (hb : Below w.heap.size w W) : Told w [] (.returned (.slice none 0 0)) W :=
  ⟨_, rfl, ⟨fun z hz => by simp at hz, ⟨rfl, Or.inl ⟨rfl, rfl⟩⟩⟩, hb⟩
theorem told_on {w W w' : World} {e : Ending} {zs : List Int} (hb : Below w.heap.size w W) (h : Told W zs e w') : Told w zs e w' := by
  obtain ⟨v, he, ho, hb'⟩ := h
  exact ⟨v, he, ho.mono hb.size, below_then hb hb'⟩

set_option maxHeartbeats 3000000 in
theorem c13 (l ps : List Int) (i leaf : Int) (ao bo : Option Addr) (n cap m cap' : Nat) (w : World) (hn : l.length = n) (hm : ps.length = m) (hcap : n ≤ cap) (hcap' : m ≤ cap') (hb : n ≤ 1048576) (hb' : m ≤ 1048576) (hr : Row w ao l) (hs : Row w bo ps) :
    Calls Try.prog 13 #[.slice ao n cap, .int .i64 i, .int .i64 leaf, .slice bo m cap'] w (Told w (Tm.treClash l i leaf ps)) := by
  subst hn hm
  have HR := hide hr
  have HS := hide hs
  clear hr hs
  rcases ho : Tm.treOk l with _ | _
  · rw [treClash_no (by rw [ho]; simp)]
    go_enter Try.func13, Try.ntmps13
    go_wp2_with (go_at_call 14; refine (c14 l _ _ _ _ rfl (by omega) (unhide HR)).mono ?_; rintro e w' ⟨rfl, rfl⟩)
    go_ret
    exact told_none (Below.refl _ _)
  · by_cases hi : 0 ≤ i ∧ i ≤ (l.length : Int) - 1
    · have d1 : decide (0 ≤ i ∧ i ≤ (l.length : Int) - 1) = true := decide_eq_true hi
      obtain ⟨hi1, hi2⟩ := hi
      rcases hch : Tm.treCheck (Tm.treRoot l) l.length i leaf ps with _ | _
      · rw [treClash_no (by rw [hch]; simp)]
        have HCH := hide hch
        clear hch
        go_enter Try.func13, Try.ntmps13
        go_wp2_with (first | (go_at_call 14; refine (c14 l _ _ _ _ rfl (by omega) (unhide HR)).mono ?_; rintro e w' ⟨rfl, rfl⟩) | (go_at_call 35; refine (c35 _ _ _ _).mono ?_; rintro e w' ⟨rfl, rfl⟩))
        refine (c37 l _ _ _ _ rfl hcap (by omega) (unhide HR)).mono ?_
        rintro e w1 ⟨rfl, q, hq⟩
        have HB1 : Hid (Below w'.heap.size w' w1) := by rw [hq]; exact below_drewN (Below.refl _ _) q
        have HS1 := hide ((unhide HS).below HB1.out (Nat.le_refl _))
        clear hq
        go_wp2_with fail
        refine (c36 ps _ _ _ _ _ _ _ _ rfl hcap' (by omega) (unhide HS1)).mono ?_
        rintro e w2 ⟨rfl, rfl⟩
        rw [unhide HCH]
        go_wp2_with fail
        go_ret
        exact told_none HB1.out
      · obtain ⟨iN, rfl⟩ := Int.eq_ofNat_of_zero_le hi1
        obtain ⟨b, off, rfl, hcs⟩ := (unhide HR).2 (by intro e; subst e; simp at hi2; omega)
        have HC := hide (hcs iN (by omega))
        have j1 : (iN : Int) < (l.length : Int) := by omega
        by_cases he : leaf = l.getD iN 0
        · rw [treClash_no (by rw [Int.toNat_natCast]; intro h; exact h.2.2 he)]
          have hbe : (l.getD iN 0 == leaf) = true := by rw [beq_iff_eq]; exact he.symm
          have HCH := hide hch
          clear hch hcs he
          generalize l.getD iN 0 = x at *
          go_enter Try.func13, Try.ntmps13
          go_wp2_with (first | (go_at_call 14; refine (c14 l _ _ _ _ rfl (by omega) (unhide HR)).mono ?_; rintro e w' ⟨rfl, rfl⟩) | (go_at_call 35; refine (c35 _ _ _ _).mono ?_; rintro e w' ⟨rfl, rfl⟩))
          refine (c37 l _ _ _ _ rfl hcap (by omega) (unhide HR)).mono ?_
          rintro e w1 ⟨rfl, q, hq⟩
          have HB1 : Hid (Below w'.heap.size w' w1) := by rw [hq]; exact below_drewN (Below.refl _ _) q
          have HS1 := hide ((unhide HS).below HB1.out (Nat.le_refl _))
          have hcell := cell_below HB1.out (unhide HC)
          clear hq
          go_wp2_with fail
          refine (c36 ps _ _ _ _ _ _ _ _ rfl hcap' (by omega) (unhide HS1)).mono ?_
          rintro e w2 ⟨rfl, rfl⟩
          rw [unhide HCH]
          go_wp2_with fail
          go_ret
          exact told_none HB1.out
        · have hne : leaf ≠ l.getD (iN : Int).toNat 0 := by rw [Int.toNat_natCast]; exact he
          rw [treClash_of ⟨ho, hch, hne⟩]
          have HI := hide (Tm.inv_of ho hch hne)
          have hbe : (l.getD iN 0 == leaf) = false := by rw [beq_eq_false_iff_ne]; exact fun e => he e.symm
          have HCH := hide hch
          clear hch hcs he hne
          generalize l.getD iN 0 = x at *
          go_enter Try.func13, Try.ntmps13
          go_wp2_with (first | (go_at_call 14; refine (c14 l _ _ _ _ rfl (by omega) (unhide HR)).mono ?_; rintro e w' ⟨rfl, rfl⟩) | (go_at_call 35; refine (c35 _ _ _ _).mono ?_; rintro e w' ⟨rfl, rfl⟩))
          refine (c37 l _ _ _ _ rfl hcap (by omega) (unhide HR)).mono ?_
          rintro e w1 ⟨rfl, q, hq⟩
          have HB1 : Hid (Below w'.heap.size w' w1) := by rw [hq]; exact below_drewN (Below.refl _ _) q
          have HS1 := hide ((unhide HS).below HB1.out (Nat.le_refl _))
          have HR1 := hide ((unhide HR).below HB1.out (Nat.le_refl _))
          have hcell := cell_below HB1.out (unhide HC)
          clear hq
          go_wp2_with fail
          refine (c36 ps _ _ _ _ _ _ _ _ rfl hcap' (by omega) (unhide HS1)).mono ?_
          rintro e w2 ⟨rfl, rfl⟩
          rw [unhide HCH]
          go_wp2_with fail
          refine (c38 l.length l ps _ leaf _ _ _ _ _ _ _ (Nat.le_refl _) rfl rfl hcap hcap' (unhide HI) (unhide HR1) (unhide HS1)).mono ?_
          rintro e w3 ⟨v, rfl, ho3, hb3⟩
          have HT := hide (told_on HB1.out ⟨v, rfl, ho3, hb3⟩)
          clear ho3 hb3
          go_wp2_with fail
          go_ret
          exact unhide HT
    · have d1 : decide (0 ≤ i ∧ i ≤ (l.length : Int) - 1) = false := decide_eq_false hi
      rw [treClash_no (by intro h; have := check_in h.2.1; omega)]
      clear hi
      go_enter Try.func13, Try.ntmps13
      go_wp2_with (first | (go_at_call 14; refine (c14 l _ _ _ _ rfl (by omega) (unhide HR)).mono ?_; rintro e w' ⟨rfl, rfl⟩) | (go_at_call 35; refine (c35 _ _ _ _).mono ?_; rintro e w' ⟨rfl, rfl⟩))
      go_ret
      exact told_none (Below.refl _ _)

/-- what the draw for TreClash leaves -/
def Clashing (w : World) (e : Ending) (w' : World) : Prop :=
  ∃ (v pv : Value) (zs qs : List Int) (i x : Int), e = .returned (.tuple #[v, .int .i64 i, .int .i64 x, pv]) ∧ Own w' w.heap.size v zs ∧ Own w' w.heap.size pv qs ∧ zs.length ≤ 41 ∧ qs.length ≤ 7 ∧ (0 ≤ i ∧ i ≤ 41) ∧ Below w.heap.size w w'

set_option maxHeartbeats 2000000 in
theorem c10 (zs : List Int) (ao : Option Addr) (n cap : Nat) (w : World) (hn : zs.length = n) (hc : n ≤ cap) (hm : cap ≤ maxLen) (hB : Bytes w ao zs) :
    Calls Try.prog 10 #[.slice ao n cap] w (Clashing w) := by
  have HB := hide hB
  clear hB
  go_enter Try.func10, Try.ntmps10
  go_wp2_with fail
  refine (c31 zs ao n cap _ hn hc hm (unhide HB)).mono ?_
  rintro e w1 ⟨rfl, hr, hb, hl⟩
  have HR := hide hr
  have HBe := hide hb
  clear hr hb
  go_wp2_with fail
  refine (c30 _ 0 _ (by omega) (unhide HR)).mono ?_
  rintro e w2 ⟨v, pv, ys, qs, i, x, rfl, hS, hy, hq, hi, hx⟩
  have HS := hide hS
  clear hS hx HR
  have HBf := hide (below_of_grown (unhide HBe) (unhide HS).2.2.2.2)
  go_wp2_with fail
  try simp only [Exit.inBlock, Exit.then]
  refine bodyPost_ret (results_tmp4 rfl _ _ _) rfl ?_
  exact ⟨_, _, ys, qs, _, _, rfl, (unhide HS).2.1.mono (Nat.le_of_lt hl), (unhide HS).2.2.1.mono (Nat.le_of_lt hl), hy, hq, hi, unhide HBf⟩
end Go.Proofs.Ytdbnimgbmjeplaa
