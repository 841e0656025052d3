/-
  The walk of the program's TreClash, given that of its clash.
-/
import Derived.Test.YtimaidcjccakeaaClasp
namespace Go.Proofs.Ytimaidcjccakeaa
open Go.RowKit
set_option linter.unusedVariables false

/-- what the walk of clash must give -/
def Goes75 : Prop := ∀ (f : Nat) (l ps : List Int) (i leaf : Int) (p : Nat) (bo : Option Addr) (m cap' : Nat) (w : World), l.length ≤ f → ps.length = m → m ≤ cap' → Tm.Inv l i leaf ps → TreeAt (f + 1) w p l → Row w bo ps →
    Calls Try.prog 152 #[.pointer (some ⟨p, 0, none⟩), .int .i64 i, .int .i64 leaf, .slice bo m cap'] w (Told w (Tm.clash f l i leaf ps))

set_option maxHeartbeats 3000000 in
theorem c56 (h75 : Goes75) (l ps : List Int) (i leaf : Int) (ao bo : Option Addr) (n cap m cap' : Nat) (w : World) (hn : l.length = n) (hm : ps.length = m) (hcap : n ≤ cap) (hcap' : m ≤ cap') (hb : n ≤ 1048576) (hb' : m ≤ 1048576) (hr : Row w ao l) (hs : Row w bo ps) :
    Calls Try.prog 56 #[.slice ao n cap, .int .i64 i, .int .i64 leaf, .slice bo m cap'] w (Told w (Tm.treClash l i leaf ps)) := by
  subst hn hm
  have HR := hide hr
  have HS := hide hs
  have H75 := hide h75
  clear hr hs h75
  rcases ho : Tm.treOk l with _ | _
  · rw [treClash_no (by rw [ho]; simp)]
    go_enter Try.func56, Try.ntmps56
    go_wp2_with (go_at_call 150; refine (c150 l _ _ _ _ rfl (by omega) (unhide HR)).mono ?_; rintro e w' ⟨rfl, rfl⟩)
    go_ret
    exact told_nil (Below.refl _ _)
  · obtain ⟨t1, t2⟩ := treOk_len ho
    have HOK := hide t2
    clear t2
    rcases hch : Tm.treCheck (Tm.treRoot l) l.length i leaf ps with _ | _
    · rw [treClash_no (by rw [hch]; simp)]
      have HCH := hide hch
      clear hch
      go_enter Try.func56, Try.ntmps56
      go_wp2_with (go_at_call 150; refine (c150 l _ _ _ _ rfl (by omega) (unhide HR)).mono ?_; rintro e w' ⟨rfl, rfl⟩)
      refine (c78 l _ _ _ _ rfl hcap (by omega) (unhide HR)).mono ?_
      rintro e w1 ⟨rfl, hb1⟩
      have HS1 := hide ((unhide HS).below hb1 (Nat.le_refl _))
      have HB1 := hide hb1
      clear hb1
      go_wp2_with fail
      refine (c62 ps _ _ _ _ _ _ _ _ rfl hcap' (by omega) (unhide HS1)).mono ?_
      rintro e w2 ⟨rfl, hb2⟩
      have HB2 := hide (below_then (unhide HB1) hb2)
      clear hb2
      rw [unhide HCH]
      go_wp2_with fail
      go_ret
      exact told_nil (unhide HB2)
    · obtain ⟨hi1, hi2⟩ := check_in hch
      obtain ⟨iN, rfl⟩ := Int.eq_ofNat_of_zero_le hi1
      obtain ⟨b, off, rfl, hcs⟩ := (unhide HR).2 (by intro e; subst e; simp at hi2; omega)
      have HC := hide (hcs iN (by omega))
      by_cases he : leaf = l.getD iN 0
      · rw [treClash_no (by rw [Int.toNat_natCast]; intro h; exact h.2.2 he)]
        have hbe : (l.getD iN 0 == leaf) = true := by rw [beq_iff_eq]; exact he.symm
        have HCH := hide hch
        clear hch hcs he
        generalize l.getD iN 0 = x at *
        go_enter Try.func56, Try.ntmps56
        go_wp2_with (go_at_call 150; refine (c150 l _ _ _ _ rfl (by omega) (unhide HR)).mono ?_; rintro e w' ⟨rfl, rfl⟩)
        refine (c78 l _ _ _ _ rfl hcap (by omega) (unhide HR)).mono ?_
        rintro e w1 ⟨rfl, hb1⟩
        have HS1 := hide ((unhide HS).below hb1 (Nat.le_refl _))
        have HB1 := hide hb1
        clear hb1
        go_wp2_with fail
        refine (c62 ps _ _ _ _ _ _ _ _ rfl hcap' (by omega) (unhide HS1)).mono ?_
        rintro e w2 ⟨rfl, hb2⟩
        have HB2 := hide (below_then (unhide HB1) hb2)
        have hcell := cell_below (unhide HB2) (unhide HC)
        clear hb2
        rw [unhide HCH]
        go_wp2_with fail
        go_ret
        exact told_nil (unhide HB2)
      · have hne : leaf ≠ l.getD (iN : Int).toNat 0 := by rw [Int.toNat_natCast]; exact he
        rw [treClash_of ⟨ho, hch, hne⟩]
        have HI := hide (Tm.inv_of ho hch hne)
        have hbe : (l.getD iN 0 == leaf) = false := by rw [beq_eq_false_iff_ne]; exact fun e => he e.symm
        have HCH := hide hch
        clear hch hcs he hne
        generalize l.getD iN 0 = x at *
        go_enter Try.func56, Try.ntmps56
        go_wp2_with (go_at_call 150; refine (c150 l _ _ _ _ rfl (by omega) (unhide HR)).mono ?_; rintro e w' ⟨rfl, rfl⟩)
        refine (c78 l _ _ _ _ rfl hcap (by omega) (unhide HR)).mono ?_
        rintro e w1 ⟨rfl, hb1⟩
        have HS1 := hide ((unhide HS).below hb1 (Nat.le_refl _))
        have HB1 := hide hb1
        clear hb1
        go_wp2_with fail
        refine (c62 ps _ _ _ _ _ _ _ _ rfl hcap' (by omega) (unhide HS1)).mono ?_
        rintro e w2 ⟨rfl, hb2⟩
        have HB2 := hide (below_then (unhide HB1) hb2)
        have HS2 := hide ((unhide HS1).below hb2 (Nat.le_refl _))
        have hcell := cell_below (unhide HB2) (unhide HC)
        have HR2 := hide ((unhide HR).below (unhide HB2) (Nat.le_refl _))
        clear hb2
        rw [unhide HCH]
        go_wp2_with fail
        refine (c151 l.length l _ _ _ _ (Nat.le_refl _) rfl t1 hcap (unhide HOK) (unhide HR2)).mono ?_
        rintro e w3 ⟨p, rfl, ht, hb3⟩
        have HT := hide ht
        have HS3 := hide ((unhide HS2).below hb3 (Nat.le_refl _))
        have HB3 := hide (below_then (unhide HB2) hb3)
        clear ht hb3
        go_wp2_with fail
        refine (unhide H75 l.length l ps _ leaf p _ _ _ _ (Nat.le_refl _) rfl hcap' (unhide HI) (unhide HT) (unhide HS3)).mono ?_
        rintro e w4 ⟨v, rfl, ho4, hb4⟩
        have HF := hide (told_on (unhide HB3) ⟨v, rfl, ho4, hb4⟩)
        clear ho4 hb4
        go_wp2_with fail
        go_ret
        exact unhide HF
end Go.Proofs.Ytimaidcjccakeaa
