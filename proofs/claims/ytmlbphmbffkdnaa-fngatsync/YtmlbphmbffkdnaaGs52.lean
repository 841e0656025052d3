/-
  Texts of the proof, what it needs of them: Mswk, Swg.
-/
import Derived.Test.YtmlbphmbffkdnaaGs18
import Derived.Test.YtmlbphmbffkdnaaGs35
import Derived.Test.YtmlbphmbffkdnaaGs38
namespace Go.Proofs.Ytmlbphmbffkdnaa
open Go.RowKit
set_option linter.unusedVariables false
set_option maxRecDepth 100000

theorem below_ex {w w' : World} (h : ∃ q, w' = w.drewN q) : Below w.heap.size w w' := by obtain ⟨q, rfl⟩ := h; exact below_drewN (Below.refl _ _) _

end Go.Proofs.Ytmlbphmbffkdnaa
namespace Go.Proofs.Ytmlbphmbffkdnaa
open Go.RowKit
set_option linter.unusedVariables false
set_option maxRecDepth 100000

/-- whether two gates are the same, part by part -/
def swG (s l o : Int) (zs : List Int) (s' l' o' : Int) (ys : List Int) : Bool := decide ((s, l, o) = (s', l', o')) && decide (zs = ys)
theorem swG_self (s l o : Int) (zs : List Int) : swG s l o zs s l o zs = true := by simp [swG]
theorem swG_no {s l o s' l' o' : Int} {zs ys : List Int} (h : ¬ (s, l, o) = (s', l', o')) : swG s l o zs s' l' o' ys = false := by unfold swG; rw [decide_eq_false h]; rfl
theorem swG_on (s l o : Int) (zs ys : List Int) : swG s l o zs s l o ys = decide (zs = ys) := by simp [swG]
set_option maxHeartbeats 4000000 in
theorem c57 (s l o : Int) (zs : List Int) (ao : Option Addr) (n cap : Nat) (s' l' o' : Int) (ys : List Int) (bo : Option Addr) (m cap' : Nat) (w : World) (hn : zs.length = n) (hm : n ≤ 1048576) (hr : Row w ao zs) (hn2 : ys.length = m) (hm2 : m ≤ 1048576) (hr2 : Row w bo ys) :
    Calls Try.prog 57 #[gatV s l o (.slice ao n cap), gatV s' l' o' (.slice bo m cap')] w fun e w' => e = .returned (.bool (swG s l o zs s' l' o' ys)) ∧ Below w.heap.size w w' := by
  subst hn
  subst hn2
  have HQ := hide hr
  have HR := hide hr2
  clear hr hr2
  have HB := hide (Below.refl w.heap.size w)
  by_cases e0 : (s, l, o) = (s', l', o')
  case neg =>
    have hno := hide (swG_no (zs := zs) (ys := ys) e0)
    replace HB := hide (below_al (o := .cells #[.int .i64 s, .int .i64 l, .int .i64 o, .slice ao zs.length cap] 63) (unhide HB))
    replace HQ := hide ((unhide HQ).bel (below_a (.cells #[.int .i64 s, .int .i64 l, .int .i64 o, .slice ao zs.length cap] 63)))
    replace HR := hide ((unhide HR).bel (below_a (.cells #[.int .i64 s, .int .i64 l, .int .i64 o, .slice ao zs.length cap] 63)))
    have HX := hide (box_new w [.int .i64 s, .int .i64 l, .int .i64 o, .slice ao zs.length cap] 63 (by simp [Value.oneCell']))
    (try simp only [World.size_alloc] at HX)
    replace HB := hide (below_al (o := .cells #[.int .i64 s', .int .i64 l', .int .i64 o', .slice bo ys.length cap'] 63) (unhide HB))
    replace HQ := hide ((unhide HQ).bel (below_a (.cells #[.int .i64 s', .int .i64 l', .int .i64 o', .slice bo ys.length cap'] 63)))
    replace HR := hide ((unhide HR).bel (below_a (.cells #[.int .i64 s', .int .i64 l', .int .i64 o', .slice bo ys.length cap'] 63)))
    replace HX := hide ((unhide HX).bel (below_a (.cells #[.int .i64 s', .int .i64 l', .int .i64 o', .slice bo ys.length cap'] 63)))
    have HY := hide (box_new (w.alloc (.cells #[.int .i64 s, .int .i64 l, .int .i64 o, .slice ao zs.length cap] 63)) [.int .i64 s', .int .i64 l', .int .i64 o', .slice bo ys.length cap'] 63 (by simp [Value.oneCell']))
    (try simp only [World.size_alloc] at HY)
    have x0 := (unhide HX).cell 0 rfl
    have x1 := (unhide HX).cell 1 rfl
    have x2 := (unhide HX).cell 2 rfl
    have x3 := (unhide HX).cell 3 rfl
    have y0 := (unhide HY).cell 0 rfl
    have y1 := (unhide HY).cell 1 rfl
    have y2 := (unhide HY).cell 2 rfl
    have y3 := (unhide HY).cell 3 rfl
    by_cases d0 : s = s'
    case neg =>
      have b0 : (s == s') = false := by rw [beq_eq_false_iff_ne]; exact d0
      go_enter Try.func57, Try.ntmps57
      go_wp2_with fail
      go_ret
      exact ⟨ret_bool (unhide hno).symm, unhide HB⟩
    subst d0
    by_cases d1 : l = l'
    case neg =>
      have b1 : (l == l') = false := by rw [beq_eq_false_iff_ne]; exact d1
      go_enter Try.func57, Try.ntmps57
      go_wp2_with fail
      go_ret
      exact ⟨ret_bool (unhide hno).symm, unhide HB⟩
    subst d1
    have b2 : (o == o') = false := by rw [beq_eq_false_iff_ne]; intro d2; subst d2; exact e0 rfl
    go_enter Try.func57, Try.ntmps57
    go_wp2_with fail
    go_ret
    exact ⟨ret_bool (unhide hno).symm, unhide HB⟩
  obtain ⟨rfl, rfl, rfl⟩ : s = s' ∧ l = l' ∧ o = o' := by simpa using e0
  clear e0
  replace HB := hide (below_al (o := .cells #[.int .i64 s, .int .i64 l, .int .i64 o, .slice ao zs.length cap] 63) (unhide HB))
  replace HQ := hide ((unhide HQ).bel (below_a (.cells #[.int .i64 s, .int .i64 l, .int .i64 o, .slice ao zs.length cap] 63)))
  replace HR := hide ((unhide HR).bel (below_a (.cells #[.int .i64 s, .int .i64 l, .int .i64 o, .slice ao zs.length cap] 63)))
  have HX := hide (box_new w [.int .i64 s, .int .i64 l, .int .i64 o, .slice ao zs.length cap] 63 (by simp [Value.oneCell']))
  (try simp only [World.size_alloc] at HX)
  replace HB := hide (below_al (o := .cells #[.int .i64 s, .int .i64 l, .int .i64 o, .slice bo ys.length cap'] 63) (unhide HB))
  replace HQ := hide ((unhide HQ).bel (below_a (.cells #[.int .i64 s, .int .i64 l, .int .i64 o, .slice bo ys.length cap'] 63)))
  replace HR := hide ((unhide HR).bel (below_a (.cells #[.int .i64 s, .int .i64 l, .int .i64 o, .slice bo ys.length cap'] 63)))
  replace HX := hide ((unhide HX).bel (below_a (.cells #[.int .i64 s, .int .i64 l, .int .i64 o, .slice bo ys.length cap'] 63)))
  have HY := hide (box_new (w.alloc (.cells #[.int .i64 s, .int .i64 l, .int .i64 o, .slice ao zs.length cap] 63)) [.int .i64 s, .int .i64 l, .int .i64 o, .slice bo ys.length cap'] 63 (by simp [Value.oneCell']))
  (try simp only [World.size_alloc] at HY)
  have x0 := (unhide HX).cell 0 rfl
  have x1 := (unhide HX).cell 1 rfl
  have x2 := (unhide HX).cell 2 rfl
  have x3 := (unhide HX).cell 3 rfl
  have y0 := (unhide HY).cell 0 rfl
  have y1 := (unhide HY).cell 1 rfl
  have y2 := (unhide HY).cell 2 rfl
  have y3 := (unhide HY).cell 3 rfl
  go_enter Try.func57, Try.ntmps57
  go_wp2_with fail
  refine (c28 zs ys ao bo zs.length cap ys.length cap' _ rfl rfl (by omega) (by omega) (unhide HQ) (unhide HR)).mono ?_
  rintro e w1 ⟨rfl, hb⟩
  replace hb := below_ex hb
  (try clear x0 x1 x2 x3 y0 y1 y2 y3)
  replace HB := hide (below_tr (unhide HB) hb)
  replace HQ := hide ((unhide HQ).bel hb)
  replace HR := hide ((unhide HR).bel hb)
  replace HX := hide ((unhide HX).bel hb)
  replace HY := hide ((unhide HY).bel hb)
  clear hb
  have x0 := (unhide HX).cell 0 rfl
  have x1 := (unhide HX).cell 1 rfl
  have x2 := (unhide HX).cell 2 rfl
  have x3 := (unhide HX).cell 3 rfl
  have y0 := (unhide HY).cell 0 rfl
  have y1 := (unhide HY).cell 1 rfl
  have y2 := (unhide HY).cell 2 rfl
  have y3 := (unhide HY).cell 3 rfl
  go_wp2_with fail
  go_ret
  exact ⟨ret_bool (swG_on _ _ _ _ _).symm, unhide HB⟩

end Go.Proofs.Ytmlbphmbffkdnaa
