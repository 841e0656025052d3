/-
  Texts of the proof, what it needs of them: Clasp, Clasq.
-/
import Derived.Test.YtmlbphmbffkdnaaGreatGh40
namespace Go.Proofs.YtmlbphmbffkdnaaGreat
open Go.RowKit
set_option linter.unusedVariables false

theorem treClash_no {l : List Int} {i leaf : Int} {ps : List Int} (h : ¬ (Tm.treOk l = true ∧ Tm.treCheck (Tm.treRoot l) l.length i leaf ps = true ∧ leaf ≠ l.getD i.toNat 0)) : Tm.treClash l i leaf ps = [] := by unfold Tm.treClash; rw [if_neg h]
theorem treClash_of {l : List Int} {i leaf : Int} {ps : List Int} (h : Tm.treOk l = true ∧ Tm.treCheck (Tm.treRoot l) l.length i leaf ps = true ∧ leaf ≠ l.getD i.toNat 0) : Tm.treClash l i leaf ps = Tm.clash l.length l i leaf ps := by unfold Tm.treClash; rw [if_pos h]
theorem check_in {root n i leaf : Int} {ps : List Int} (h : Tm.treCheck root n i leaf ps = true) : 0 ≤ i ∧ i < n := by
  unfold Tm.treCheck at h
  rcases hu : Tm.treUp n i leaf ps with _ | y
  · rw [hu] at h; simp at h
  · have := (Tm.upc hu).1; omega
theorem told_none {w W : World} (hb : Below w.heap.size w W) : Told w [] (.returned (.slice (some ⟨W.heap.size, 0, none⟩) 0 0)) (W.alloc (.cells #[] 3)) :=
  ⟨_, rfl, own_empty W w.heap.size hb.size, hb.alloc hb.size _⟩
theorem told_nil {w W : World} (hb : Below w.heap.size w W) : Told w [] (.returned (.slice none 0 0)) W :=
  ⟨_, rfl, ⟨fun z hz => by simp at hz, ⟨rfl, Or.inl ⟨rfl, rfl⟩⟩⟩, hb⟩
theorem told_on {w W w' : World} {e : Ending} {zs : List Int} (hb : Below w.heap.size w W) (h : Told W zs e w') : Told w zs e w' := by
  obtain ⟨v, he, ho, hb'⟩ := h
  exact ⟨v, he, ho.mono hb.size, below_then hb hb'⟩

end Go.Proofs.YtmlbphmbffkdnaaGreat
namespace Go.Proofs.YtmlbphmbffkdnaaGreat
open Go.RowKit
set_option linter.unusedVariables false

/-- what the walk of clash must give -/
def Goes75 : Prop := ∀ (f : Nat) (l ps : List Int) (i leaf : Int) (p : Nat) (bo : Option Addr) (m cap' : Nat) (w : World), l.length ≤ f → ps.length = m → m ≤ cap' → Tm.Inv l i leaf ps → TreeAt (f + 1) w p l → Row w bo ps →
    Calls Tryz.prog 65 #[.pointer (some ⟨p, 0, none⟩), .int .i64 i, .int .i64 leaf, .slice bo m cap'] w (Told w (Tm.clash f l i leaf ps))

set_option maxHeartbeats 3000000 in
theorem c20 (h75 : Goes75) (l ps : List Int) (i leaf : Int) (ao bo : Option Addr) (n cap m cap' : Nat) (w : World) (hn : l.length = n) (hm : ps.length = m) (hcap : n ≤ cap) (hcap' : m ≤ cap') (hb : n ≤ 1048576) (hb' : m ≤ 1048576) (hr : Row w ao l) (hs : Row w bo ps) :
    Calls Tryz.prog 20 #[.slice ao n cap, .int .i64 i, .int .i64 leaf, .slice bo m cap'] w (Told w (Tm.treClash l i leaf ps)) := by
  subst hn hm
  have HR := hide hr
  have HS := hide hs
  have H75 := hide h75
  clear hr hs h75
  rcases ho : Tm.treOk l with _ | _
  · rw [treClash_no (by rw [ho]; simp)]
    go_enter Tryz.func20, Tryz.ntmps20
    go_wp2_with (go_at_call 63; refine (c63 l _ _ _ _ rfl (by omega) (unhide HR)).mono ?_; rintro e w' ⟨rfl, rfl⟩)
    go_ret
    exact told_nil (Below.refl _ _)
  · obtain ⟨t1, t2⟩ := treOk_len ho
    have HOK := hide t2
    clear t2
    rcases hch : Tm.treCheck (Tm.treRoot l) l.length i leaf ps with _ | _
    · rw [treClash_no (by rw [hch]; simp)]
      have HCH := hide hch
      clear hch
      go_enter Tryz.func20, Tryz.ntmps20
      go_wp2_with (go_at_call 63; refine (c63 l _ _ _ _ rfl (by omega) (unhide HR)).mono ?_; rintro e w' ⟨rfl, rfl⟩)
      refine (c50 l _ _ _ _ rfl hcap (by omega) (unhide HR)).mono ?_
      rintro e w1 ⟨rfl, hb1⟩
      have HS1 := hide ((unhide HS).below hb1 (Nat.le_refl _))
      have HB1 := hide hb1
      clear hb1
      go_wp2_with fail
      refine (c48 ps _ _ _ _ _ _ _ _ rfl hcap' (by omega) (unhide HS1)).mono ?_
      rintro e w2 ⟨rfl, hb2⟩
      have HB2 := hide (below_then (unhide HB1) hb2)
      clear hb2
      rw [unhide HCH]
      go_wp2_with fail
      go_ret
      exact told_nil (unhide HB2)
    · obtain ⟨hi1, hi2⟩ := check_in hch
      obtain ⟨iN, rfl⟩ := Int.eq_ofNat_of_zero_le hi1
      obtain ⟨b, off, rfl, hcs⟩ := (unhide HR).2 (by intro e; subst e; simp at hi2; omega)
      have HC := hide (hcs iN (by omega))
      by_cases he : leaf = l.getD iN 0
      · rw [treClash_no (by rw [Int.toNat_natCast]; intro h; exact h.2.2 he)]
        have hbe : (l.getD iN 0 == leaf) = true := by rw [beq_iff_eq]; exact he.symm
        have HCH := hide hch
        clear hch hcs he
        generalize l.getD iN 0 = x at *
        go_enter Tryz.func20, Tryz.ntmps20
        go_wp2_with (go_at_call 63; refine (c63 l _ _ _ _ rfl (by omega) (unhide HR)).mono ?_; rintro e w' ⟨rfl, rfl⟩)
        refine (c50 l _ _ _ _ rfl hcap (by omega) (unhide HR)).mono ?_
        rintro e w1 ⟨rfl, hb1⟩
        have HS1 := hide ((unhide HS).below hb1 (Nat.le_refl _))
        have HB1 := hide hb1
        clear hb1
        go_wp2_with fail
        refine (c48 ps _ _ _ _ _ _ _ _ rfl hcap' (by omega) (unhide HS1)).mono ?_
        rintro e w2 ⟨rfl, hb2⟩
        have HB2 := hide (below_then (unhide HB1) hb2)
        have hcell := cell_below (unhide HB2) (unhide HC)
        clear hb2
        rw [unhide HCH]
        go_wp2_with fail
        go_ret
        exact told_nil (unhide HB2)
      · have hne : leaf ≠ l.getD (iN : Int).toNat 0 := by rw [Int.toNat_natCast]; exact he
        rw [treClash_of ⟨ho, hch, hne⟩]
        have HI := hide (Tm.inv_of ho hch hne)
        have hbe : (l.getD iN 0 == leaf) = false := by rw [beq_eq_false_iff_ne]; exact fun e => he e.symm
        have HCH := hide hch
        clear hch hcs he hne
        generalize l.getD iN 0 = x at *
        go_enter Tryz.func20, Tryz.ntmps20
        go_wp2_with (go_at_call 63; refine (c63 l _ _ _ _ rfl (by omega) (unhide HR)).mono ?_; rintro e w' ⟨rfl, rfl⟩)
        refine (c50 l _ _ _ _ rfl hcap (by omega) (unhide HR)).mono ?_
        rintro e w1 ⟨rfl, hb1⟩
        have HS1 := hide ((unhide HS).below hb1 (Nat.le_refl _))
        have HB1 := hide hb1
        clear hb1
        go_wp2_with fail
        refine (c48 ps _ _ _ _ _ _ _ _ rfl hcap' (by omega) (unhide HS1)).mono ?_
        rintro e w2 ⟨rfl, hb2⟩
        have HB2 := hide (below_then (unhide HB1) hb2)
        have HS2 := hide ((unhide HS1).below hb2 (Nat.le_refl _))
        have hcell := cell_below (unhide HB2) (unhide HC)
        have HR2 := hide ((unhide HR).below (unhide HB2) (Nat.le_refl _))
        clear hb2
        rw [unhide HCH]
        go_wp2_with fail
        refine (c64 l.length l _ _ _ _ (Nat.le_refl _) rfl t1 hcap (unhide HOK) (unhide HR2)).mono ?_
        rintro e w3 ⟨p, rfl, ht, hb3⟩
        have HT := hide ht
        have HS3 := hide ((unhide HS2).below hb3 (Nat.le_refl _))
        have HB3 := hide (below_then (unhide HB2) hb3)
        clear ht hb3
        go_wp2_with fail
        refine (unhide H75 l.length l ps _ leaf p _ _ _ _ (Nat.le_refl _) rfl hcap' (unhide HI) (unhide HT) (unhide HS3)).mono ?_
        rintro e w4 ⟨v, rfl, ho4, hb4⟩
        have HF := hide (told_on (unhide HB3) ⟨v, rfl, ho4, hb4⟩)
        clear ho4 hb4
        go_wp2_with fail
        go_ret
        exact unhide HF
end Go.Proofs.YtmlbphmbffkdnaaGreat
