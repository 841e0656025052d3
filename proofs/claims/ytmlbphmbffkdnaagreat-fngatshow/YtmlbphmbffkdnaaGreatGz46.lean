/-
  Texts of the proof, what it needs of them: Mswk, Swg.
-/
import Derived.Test.YtmlbphmbffkdnaaGreatGz16
import Derived.Test.YtmlbphmbffkdnaaGreatGz30
import Derived.Test.YtmlbphmbffkdnaaGreatGz33
namespace Go.Proofs.YtmlbphmbffkdnaaGreat
open Go.RowKit
set_option linter.unusedVariables false
set_option maxRecDepth 100000

theorem below_ex {w w' : World} (h : ∃ q, w' = w.drewN q) : Below w.heap.size w w' := by obtain ⟨q, rfl⟩ := h; exact below_drewN (Below.refl _ _) _

end Go.Proofs.YtmlbphmbffkdnaaGreat
namespace Go.Proofs.YtmlbphmbffkdnaaGreat
open Go.RowKit
set_option linter.unusedVariables false
set_option maxRecDepth 100000

/-- whether two gates are the same, part by part -/
def swG (s l o : Int) (zs : List Int) (s' l' o' : Int) (ys : List Int) : Bool := decide ((s, l, o) = (s', l', o')) && decide (zs = ys)
theorem swG_self (s l o : Int) (zs : List Int) : swG s l o zs s l o zs = true := by simp [swG]
theorem swG_no {s l o s' l' o' : Int} {zs ys : List Int} (h : ¬ (s, l, o) = (s', l', o')) : swG s l o zs s' l' o' ys = false := by unfold swG; rw [decide_eq_false h]; rfl
theorem swG_on (s l o : Int) (zs ys : List Int) : swG s l o zs s l o ys = decide (zs = ys) := by simp [swG]
set_option maxHeartbeats 4000000 in
theorem c8 (s l o : Int) (zs : List Int) (ao : Option Addr) (n cap : Nat) (s' l' o' : Int) (ys : List Int) (bo : Option Addr) (m cap' : Nat) (w : World) (hn : zs.length = n) (hm : n ≤ 1048576) (hr : Row w ao zs) (hn2 : ys.length = m) (hm2 : m ≤ 1048576) (hr2 : Row w bo ys) :
    Calls Tryz.prog 8 #[gatV s l o (.slice ao n cap), gatV s' l' o' (.slice bo m cap')] w fun e w' => e = .returned (.bool (swG s l o zs s' l' o' ys)) ∧ Below w.heap.size w w' := by
  subst hn
  subst hn2
  have HQ := hide hr
  have HR := hide hr2
  clear hr hr2
  have HB := hide (Below.refl w.heap.size w)
  by_cases e0 : (s, l, o) = (s', l', o')
  case neg =>
    have hno := hide (swG_no (zs := zs) (ys := ys) e0)
    replace HB := hide (below_al (o := .cells #[.int .i64 s, .int .i64 l, .int .i64 o, .slice ao zs.length cap] 27) (unhide HB))
    replace HQ := hide ((unhide HQ).bel (below_a (.cells #[.int .i64 s, .int .i64 l, .int .i64 o, .slice ao zs.length cap] 27)))
    replace HR := hide ((unhide HR).bel (below_a (.cells #[.int .i64 s, .int .i64 l, .int .i64 o, .slice ao zs.length cap] 27)))
    have HX := hide (box_new w [.int .i64 s, .int .i64 l, .int .i64 o, .slice ao zs.length cap] 27 (by simp [Value.oneCell']))
    (try simp only [World.size_alloc] at HX)
    replace HB := hide (below_al (o := .cells #[.int .i64 s', .int .i64 l', .int .i64 o', .slice bo ys.length cap'] 27) (unhide HB))
    replace HQ := hide ((unhide HQ).bel (below_a (.cells #[.int .i64 s', .int .i64 l', .int .i64 o', .slice bo ys.length cap'] 27)))
    replace HR := hide ((unhide HR).bel (below_a (.cells #[.int .i64 s', .int .i64 l', .int .i64 o', .slice bo ys.length cap'] 27)))
    replace HX := hide ((unhide HX).bel (below_a (.cells #[.int .i64 s', .int .i64 l', .int .i64 o', .slice bo ys.length cap'] 27)))
    have HY := hide (box_new (w.alloc (.cells #[.int .i64 s, .int .i64 l, .int .i64 o, .slice ao zs.length cap] 27)) [.int .i64 s', .int .i64 l', .int .i64 o', .slice bo ys.length cap'] 27 (by simp [Value.oneCell']))
    (try simp only [World.size_alloc] at HY)
    have x0 := (unhide HX).cell 0 rfl
    have x1 := (unhide HX).cell 1 rfl
    have x2 := (unhide HX).cell 2 rfl
    have x3 := (unhide HX).cell 3 rfl
    have y0 := (unhide HY).cell 0 rfl
    have y1 := (unhide HY).cell 1 rfl
    have y2 := (unhide HY).cell 2 rfl
    have y3 := (unhide HY).cell 3 rfl
    by_cases d0 : s = s'
    case neg =>
      have b0 : (s == s') = false := by rw [beq_eq_false_iff_ne]; exact d0
      go_enter Tryz.func8, Tryz.ntmps8
      go_wp2_with fail
      go_ret
      exact ⟨ret_bool (unhide hno).symm, unhide HB⟩
    subst d0
    by_cases d1 : l = l'
    case neg =>
      have b1 : (l == l') = false := by rw [beq_eq_false_iff_ne]; exact d1
      go_enter Tryz.func8, Tryz.ntmps8
      go_wp2_with fail
      go_ret
      exact ⟨ret_bool (unhide hno).symm, unhide HB⟩
    subst d1
    have b2 : (o == o') = false := by rw [beq_eq_false_iff_ne]; intro d2; subst d2; exact e0 rfl
    go_enter Tryz.func8, Tryz.ntmps8
    go_wp2_with fail
    go_ret
    exact ⟨ret_bool (unhide hno).symm, unhide HB⟩
  obtain ⟨rfl, rfl, rfl⟩ : s = s' ∧ l = l' ∧ o = o' := by simpa using e0
  clear e0
  replace HB := hide (below_al (o := .cells #[.int .i64 s, .int .i64 l, .int .i64 o, .slice ao zs.length cap] 27) (unhide HB))
  replace HQ := hide ((unhide HQ).bel (below_a (.cells #[.int .i64 s, .int .i64 l, .int .i64 o, .slice ao zs.length cap] 27)))
  replace HR := hide ((unhide HR).bel (below_a (.cells #[.int .i64 s, .int .i64 l, .int .i64 o, .slice ao zs.length cap] 27)))
  have HX := hide (box_new w [.int .i64 s, .int .i64 l, .int .i64 o, .slice ao zs.length cap] 27 (by simp [Value.oneCell']))
  (try simp only [World.size_alloc] at HX)
  replace HB := hide (below_al (o := .cells #[.int .i64 s, .int .i64 l, .int .i64 o, .slice bo ys.length cap'] 27) (unhide HB))
  replace HQ := hide ((unhide HQ).bel (below_a (.cells #[.int .i64 s, .int .i64 l, .int .i64 o, .slice bo ys.length cap'] 27)))
  replace HR := hide ((unhide HR).bel (below_a (.cells #[.int .i64 s, .int .i64 l, .int .i64 o, .slice bo ys.length cap'] 27)))
  replace HX := hide ((unhide HX).bel (below_a (.cells #[.int .i64 s, .int .i64 l, .int .i64 o, .slice bo ys.length cap'] 27)))
  have HY := hide (box_new (w.alloc (.cells #[.int .i64 s, .int .i64 l, .int .i64 o, .slice ao zs.length cap] 27)) [.int .i64 s, .int .i64 l, .int .i64 o, .slice bo ys.length cap'] 27 (by simp [Value.oneCell']))
  (try simp only [World.size_alloc] at HY)
  have x0 := (unhide HX).cell 0 rfl
  have x1 := (unhide HX).cell 1 rfl
  have x2 := (unhide HX).cell 2 rfl
  have x3 := (unhide HX).cell 3 rfl
  have y0 := (unhide HY).cell 0 rfl
  have y1 := (unhide HY).cell 1 rfl
  have y2 := (unhide HY).cell 2 rfl
  have y3 := (unhide HY).cell 3 rfl
  go_enter Tryz.func8, Tryz.ntmps8
  go_wp2_with fail
  refine (c44 zs ys ao bo zs.length cap ys.length cap' _ rfl rfl (by omega) (by omega) (unhide HQ) (unhide HR)).mono ?_
  rintro e w1 ⟨rfl, hb⟩
  replace hb := below_ex hb
  (try clear x0 x1 x2 x3 y0 y1 y2 y3)
  replace HB := hide (below_tr (unhide HB) hb)
  replace HQ := hide ((unhide HQ).bel hb)
  replace HR := hide ((unhide HR).bel hb)
  replace HX := hide ((unhide HX).bel hb)
  replace HY := hide ((unhide HY).bel hb)
  clear hb
  have x0 := (unhide HX).cell 0 rfl
  have x1 := (unhide HX).cell 1 rfl
  have x2 := (unhide HX).cell 2 rfl
  have x3 := (unhide HX).cell 3 rfl
  have y0 := (unhide HY).cell 0 rfl
  have y1 := (unhide HY).cell 1 rfl
  have y2 := (unhide HY).cell 2 rfl
  have y3 := (unhide HY).cell 3 rfl
  go_wp2_with fail
  go_ret
  exact ⟨ret_bool (swG_on _ _ _ _ _).symm, unhide HB⟩

theorem any_at {zs : List Int} {x t : Int} {k : Nat} (h : zs[k]? = some x) (ht : x = t) : (zs.drop k).any (fun z => decide (z = t)) = true := by rw [i_drop h]; simp [ht]
theorem any_on {zs : List Int} {x t : Int} {k : Nat} (h : zs[k]? = some x) (ht : ¬ x = t) : (zs.drop k).any (fun z => decide (z = t)) = (zs.drop (k + 1)).any (fun z => decide (z = t)) := by rw [i_drop h]; simp [ht]
/-- whether a number is one of some -/
def hasB (zs : List Int) (t : Int) : Bool := zs.any (fun z => decide (z = t))
theorem hasB_iff {zs : List Int} {t : Int} : hasB zs t = true ↔ t ∈ zs := by
  unfold hasB
  rw [List.any_eq_true]
  exact ⟨fun ⟨z, hz, e⟩ => by rw [← of_decide_eq_true e]; exact hz, fun h => ⟨t, h, by simp⟩⟩

set_option maxHeartbeats 4000000 in
theorem c11 (zs : List Int) (ao : Option Addr) (n cap : Nat) (t : Int) (w : World) (hn : zs.length = n) (hm : n ≤ 1048576) (hr : Row w ao zs) :
    Calls Tryz.prog 11 #[.slice ao n cap, .int .i64 t] w fun e w' => e = .returned (.bool (hasB zs t)) ∧ Below w.heap.size w w' := by
  have HR := hide hr
  have HN := hide hn
  clear hr hn
  have HB := hide (Below.refl w.heap.size w)
  go_enter Tryz.func11, Tryz.ntmps11
  go_wp2_with fail
  go_loopw [5] (fun i wr => ∃ k : Nat, k ≤ n ∧ i = .int .i64 k ∧ hasB zs t = (zs.drop k).any (fun z => decide (z = t)) ∧ Below w.heap.size w wr) (fun i _ => n - (intOf i).toNat)
  case atStart => exact ⟨0, Nat.zero_le _, rfl, rfl, unhide HB⟩
  case round =>
    obtain ⟨k, hk, rfl, ha, hb⟩ := hrel
    clear HB
    have HA := hide ha
    have HB := hide hb
    clear ha hb
    replace HR := hide ((unhide HR).bel (unhide HB))
    obtain ⟨WA, hWA⟩ : ∃ A : World, A = wr := ⟨_, rfl⟩
    subst hWA
    by_cases hlt : k < n
    case neg =>
      obtain rfl : k = n := by omega
      have hf : hasB zs t = false := by rw [unhide HA, List.drop_eq_nil_of_le (by rw [unhide HN]; exact Nat.le_refl _)]; rfl
      go_wp2_with fail
      go_ret
      exact ⟨ret_bool hf.symm, unhide HB⟩
    obtain ⟨x, hx⟩ := i_at (zs := zs) (k := k) (by rw [unhide HN]; exact hlt)
    obtain ⟨b, off, rfl, hc, hx2⟩ := (unhide HR).get hx
    have HX := hide hx
    clear hx
    by_cases ht : x = t
    case pos =>
      have hf : hasB zs t = true := by rw [unhide HA]; exact any_at (unhide HX) ht
      subst ht
      go_wp2_with fail
      go_ret
      exact ⟨ret_bool hf.symm, unhide HB⟩
    have hd : (x == t) = false := by rw [beq_eq_false_iff_ne]; exact ht
    have hq := any_on (unhide HX) ht
    have HQ := hide hq
    clear hq
    go_wp2_with fail
    go_roundw
    case rel => exact ⟨k + 1, by omega, by go_num, by rw [unhide HA]; exact unhide HQ, unhide HB⟩
    case measure => simp [intOf]; omega

set_option maxHeartbeats 4000000 in
theorem c41 (zs : List Int) (ao : Option Addr) (n cap : Nat) (t : Int) (w : World) (hn : zs.length = n) (hm : n ≤ 1048576) (hr : Row w ao zs) :
    Calls Tryz.prog 41 #[.slice ao n cap, .int .i64 t] w fun e w' => e = .returned (.bool (hasB zs t)) ∧ Below w.heap.size w w' := by
  have HR := hide hr
  have HN := hide hn
  clear hr hn
  have HB := hide (Below.refl w.heap.size w)
  go_enter Tryz.func41, Tryz.ntmps41
  go_wp2_with fail
  go_loopw [5] (fun i wr => ∃ k : Nat, k ≤ n ∧ i = .int .i64 k ∧ hasB zs t = (zs.drop k).any (fun z => decide (z = t)) ∧ Below w.heap.size w wr) (fun i _ => n - (intOf i).toNat)
  case atStart => exact ⟨0, Nat.zero_le _, rfl, rfl, unhide HB⟩
  case round =>
    obtain ⟨k, hk, rfl, ha, hb⟩ := hrel
    clear HB
    have HA := hide ha
    have HB := hide hb
    clear ha hb
    replace HR := hide ((unhide HR).bel (unhide HB))
    obtain ⟨WA, hWA⟩ : ∃ A : World, A = wr := ⟨_, rfl⟩
    subst hWA
    by_cases hlt : k < n
    case neg =>
      obtain rfl : k = n := by omega
      have hf : hasB zs t = false := by rw [unhide HA, List.drop_eq_nil_of_le (by rw [unhide HN]; exact Nat.le_refl _)]; rfl
      go_wp2_with fail
      go_ret
      exact ⟨ret_bool hf.symm, unhide HB⟩
    obtain ⟨x, hx⟩ := i_at (zs := zs) (k := k) (by rw [unhide HN]; exact hlt)
    obtain ⟨b, off, rfl, hc, hx2⟩ := (unhide HR).get hx
    have HX := hide hx
    clear hx
    by_cases ht : x = t
    case pos =>
      have hf : hasB zs t = true := by rw [unhide HA]; exact any_at (unhide HX) ht
      subst ht
      go_wp2_with fail
      go_ret
      exact ⟨ret_bool hf.symm, unhide HB⟩
    have hd : (x == t) = false := by rw [beq_eq_false_iff_ne]; exact ht
    have hq := any_on (unhide HX) ht
    have HQ := hide hq
    clear hq
    go_wp2_with fail
    go_roundw
    case rel => exact ⟨k + 1, by omega, by go_num, by rw [unhide HA]; exact unhide HQ, unhide HB⟩
    case measure => simp [intOf]; omega

end Go.Proofs.YtmlbphmbffkdnaaGreat
