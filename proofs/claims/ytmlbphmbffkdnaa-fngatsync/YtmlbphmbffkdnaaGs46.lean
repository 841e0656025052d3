/-
  Texts of the proof, what it needs of them: Hedcs.
-/
import Derived.Test.YtmlbphmbffkdnaaGs45
namespace Go.Proofs.Ytmlbphmbffkdnaa
open Go.RowKit
set_option linter.unusedVariables false
set_option maxRecDepth 100000

set_option maxHeartbeats 4000000 in
theorem c141 (a b c a' b' c' : Int) (ps : List Int) (ao : Option Addr) (n cap : Nat) (w : World) (hn : ps.length = n) (hcap : n ≤ cap) (hm : n ≤ 1048576) (hr : Row w ao ps) :
    Calls Try.prog 141 #[hedV a b c, hedV a' b' c', .slice ao n cap] w fun e w' => e = .returned (.bool (hedFollows a b c a' b' c' ps)) ∧ Below w.heap.size w w' := by
  have HX := hide ((box_new w [.int .i64 a, .int .i64 b, .int .i64 c] 61 (by simp [Value.oneCell'])).alloc (.cells #[.int .i64 a', .int .i64 b', .int .i64 c'] 61))
  have HY0 := box_new (w.alloc (.cells #[.int .i64 a, .int .i64 b, .int .i64 c] 61)) [.int .i64 a', .int .i64 b', .int .i64 c'] 61 (by simp [Value.oneCell'])
  rw [show (w.alloc (.cells #[.int .i64 a, .int .i64 b, .int .i64 c] 61)).heap.size = w.heap.size + 1 by simp] at HY0
  have HY := hide HY0
  have HB := hide (below_al (o := .cells #[.int .i64 a', .int .i64 b', .int .i64 c'] 61) (below_a (w := w) (.cells #[.int .i64 a, .int .i64 b, .int .i64 c] 61)))
  have HR := hide ((hr.bel (below_a (.cells #[.int .i64 a, .int .i64 b, .int .i64 c] 61))).bel (below_a (.cells #[.int .i64 a', .int .i64 b', .int .i64 c'] 61)))
  have HN := hide hn
  clear HY0 hr hn
  rcases h1 : hedOk a b c with _ | _
  case false =>
    have HU := hide (hf1 (a' := a') (b' := b') (c' := c') (ps := ps) h1)
    have x0 := (unhide HX).cell 0 rfl
    have x1 := (unhide HX).cell 1 rfl
    have x2 := (unhide HX).cell 2 rfl
    have y0 := (unhide HY).cell 0 rfl
    have y1 := (unhide HY).cell 1 rfl
    have y2 := (unhide HY).cell 2 rfl
    go_enter Try.func141, Try.ntmps141
    go_wp2_with fail
    refine (c73 a b c _).mono ?_
    rintro e w1 ⟨rfl, hb⟩
    clear x0 x1 x2 y0 y1 y2
    replace HB := hide (below_tr (unhide HB) hb)
    replace HX := hide ((unhide HX).bel hb)
    replace HY := hide ((unhide HY).bel hb)
    replace HR := hide ((unhide HR).bel hb)
    clear hb
    have x0 := (unhide HX).cell 0 rfl
    have x1 := (unhide HX).cell 1 rfl
    have x2 := (unhide HX).cell 2 rfl
    have y0 := (unhide HY).cell 0 rfl
    have y1 := (unhide HY).cell 1 rfl
    have y2 := (unhide HY).cell 2 rfl
    go_wp2_with fail
    go_ret
    exact ⟨ret_bool ((unhide HU).symm), unhide HB⟩
  rcases h2 : hedOk a' b' c' with _ | _
  case false =>
    have HU := hide (hf2 (a := a) (b := b) (c := c) (ps := ps) h2)
    have x0 := (unhide HX).cell 0 rfl
    have x1 := (unhide HX).cell 1 rfl
    have x2 := (unhide HX).cell 2 rfl
    have y0 := (unhide HY).cell 0 rfl
    have y1 := (unhide HY).cell 1 rfl
    have y2 := (unhide HY).cell 2 rfl
    go_enter Try.func141, Try.ntmps141
    go_wp2_with fail
    refine (c73 a b c _).mono ?_
    rintro e w1 ⟨rfl, hb⟩
    clear x0 x1 x2 y0 y1 y2
    replace HB := hide (below_tr (unhide HB) hb)
    replace HX := hide ((unhide HX).bel hb)
    replace HY := hide ((unhide HY).bel hb)
    replace HR := hide ((unhide HR).bel hb)
    clear hb
    have x0 := (unhide HX).cell 0 rfl
    have x1 := (unhide HX).cell 1 rfl
    have x2 := (unhide HX).cell 2 rfl
    have y0 := (unhide HY).cell 0 rfl
    have y1 := (unhide HY).cell 1 rfl
    have y2 := (unhide HY).cell 2 rfl
    go_wp2_with fail
    refine (c73 a' b' c' _).mono ?_
    rintro e w2 ⟨rfl, hb⟩
    clear x0 x1 x2 y0 y1 y2
    replace HB := hide (below_tr (unhide HB) hb)
    replace HX := hide ((unhide HX).bel hb)
    replace HY := hide ((unhide HY).bel hb)
    replace HR := hide ((unhide HR).bel hb)
    clear hb
    have x0 := (unhide HX).cell 0 rfl
    have x1 := (unhide HX).cell 1 rfl
    have x2 := (unhide HX).cell 2 rfl
    have y0 := (unhide HY).cell 0 rfl
    have y1 := (unhide HY).cell 1 rfl
    have y2 := (unhide HY).cell 2 rfl
    go_wp2_with fail
    go_ret
    exact ⟨ret_bool ((unhide HU).symm), unhide HB⟩
  by_cases h3 : a' < a
  case pos =>
    have HU := hide (hf3 (b := b) (c := c) (b' := b') (c' := c') (ps := ps) h3)
    have x0 := (unhide HX).cell 0 rfl
    have x1 := (unhide HX).cell 1 rfl
    have x2 := (unhide HX).cell 2 rfl
    have y0 := (unhide HY).cell 0 rfl
    have y1 := (unhide HY).cell 1 rfl
    have y2 := (unhide HY).cell 2 rfl
    go_enter Try.func141, Try.ntmps141
    go_wp2_with fail
    refine (c73 a b c _).mono ?_
    rintro e w1 ⟨rfl, hb⟩
    clear x0 x1 x2 y0 y1 y2
    replace HB := hide (below_tr (unhide HB) hb)
    replace HX := hide ((unhide HX).bel hb)
    replace HY := hide ((unhide HY).bel hb)
    replace HR := hide ((unhide HR).bel hb)
    clear hb
    have x0 := (unhide HX).cell 0 rfl
    have x1 := (unhide HX).cell 1 rfl
    have x2 := (unhide HX).cell 2 rfl
    have y0 := (unhide HY).cell 0 rfl
    have y1 := (unhide HY).cell 1 rfl
    have y2 := (unhide HY).cell 2 rfl
    go_wp2_with fail
    refine (c73 a' b' c' _).mono ?_
    rintro e w2 ⟨rfl, hb⟩
    clear x0 x1 x2 y0 y1 y2
    replace HB := hide (below_tr (unhide HB) hb)
    replace HX := hide ((unhide HX).bel hb)
    replace HY := hide ((unhide HY).bel hb)
    replace HR := hide ((unhide HR).bel hb)
    clear hb
    have x0 := (unhide HX).cell 0 rfl
    have x1 := (unhide HX).cell 1 rfl
    have x2 := (unhide HX).cell 2 rfl
    have y0 := (unhide HY).cell 0 rfl
    have y1 := (unhide HY).cell 1 rfl
    have y2 := (unhide HY).cell 2 rfl
    go_wp2_with fail
    go_ret
    exact ⟨ret_bool ((unhide HU).symm), unhide HB⟩
  have he := eqHedT
  have hg : Try.prog.eqGuardType Try.prog.depth 61 = false := by kernel_rfl
  by_cases h0 : a = 0
  case pos =>
    have h4 := grown0 (b := b) (a' := a') (b' := b') (ps := ps) h0
    rw [unhide HN] at h4
    by_cases hz : n = 0
    case neg =>
      rw [decide_eq_false hz] at h4
      have HU := hide (hf4 (c := c) (c' := c') h4)
      clear h4
      subst h0
      have x0 := (unhide HX).cell 0 rfl
      have x1 := (unhide HX).cell 1 rfl
      have x2 := (unhide HX).cell 2 rfl
      have y0 := (unhide HY).cell 0 rfl
      have y1 := (unhide HY).cell 1 rfl
      have y2 := (unhide HY).cell 2 rfl
      go_enter Try.func141, Try.ntmps141
      go_wp2_with fail
      refine (c73 (0 : Int) b c _).mono ?_
      rintro e w1 ⟨rfl, hb⟩
      clear x0 x1 x2 y0 y1 y2
      replace HB := hide (below_tr (unhide HB) hb)
      replace HX := hide ((unhide HX).bel hb)
      replace HY := hide ((unhide HY).bel hb)
      replace HR := hide ((unhide HR).bel hb)
      clear hb
      have x0 := (unhide HX).cell 0 rfl
      have x1 := (unhide HX).cell 1 rfl
      have x2 := (unhide HX).cell 2 rfl
      have y0 := (unhide HY).cell 0 rfl
      have y1 := (unhide HY).cell 1 rfl
      have y2 := (unhide HY).cell 2 rfl
      go_wp2_with fail
      refine (c73 a' b' c' _).mono ?_
      rintro e w2 ⟨rfl, hb⟩
      clear x0 x1 x2 y0 y1 y2
      replace HB := hide (below_tr (unhide HB) hb)
      replace HX := hide ((unhide HX).bel hb)
      replace HY := hide ((unhide HY).bel hb)
      replace HR := hide ((unhide HR).bel hb)
      clear hb
      have x0 := (unhide HX).cell 0 rfl
      have x1 := (unhide HX).cell 1 rfl
      have x2 := (unhide HX).cell 2 rfl
      have y0 := (unhide HY).cell 0 rfl
      have y1 := (unhide HY).cell 1 rfl
      have y2 := (unhide HY).cell 2 rfl
      go_wp2_with fail
      go_ret
      exact ⟨ret_bool ((unhide HU).symm), unhide HB⟩
    rw [decide_eq_true hz] at h4
    subst hz
    by_cases h5 : a < a'
    case pos =>
      have HU := hide (hf5 h1 h2 h5 h4)
      clear h4
      subst h0
      have x0 := (unhide HX).cell 0 rfl
      have x1 := (unhide HX).cell 1 rfl
      have x2 := (unhide HX).cell 2 rfl
      have y0 := (unhide HY).cell 0 rfl
      have y1 := (unhide HY).cell 1 rfl
      have y2 := (unhide HY).cell 2 rfl
      go_enter Try.func141, Try.ntmps141
      go_wp2_with fail
      refine (c73 (0 : Int) b c _).mono ?_
      rintro e w1 ⟨rfl, hb⟩
      clear x0 x1 x2 y0 y1 y2
      replace HB := hide (below_tr (unhide HB) hb)
      replace HX := hide ((unhide HX).bel hb)
      replace HY := hide ((unhide HY).bel hb)
      replace HR := hide ((unhide HR).bel hb)
      clear hb
      have x0 := (unhide HX).cell 0 rfl
      have x1 := (unhide HX).cell 1 rfl
      have x2 := (unhide HX).cell 2 rfl
      have y0 := (unhide HY).cell 0 rfl
      have y1 := (unhide HY).cell 1 rfl
      have y2 := (unhide HY).cell 2 rfl
      go_wp2_with fail
      refine (c73 a' b' c' _).mono ?_
      rintro e w2 ⟨rfl, hb⟩
      clear x0 x1 x2 y0 y1 y2
      replace HB := hide (below_tr (unhide HB) hb)
      replace HX := hide ((unhide HX).bel hb)
      replace HY := hide ((unhide HY).bel hb)
      replace HR := hide ((unhide HR).bel hb)
      clear hb
      have x0 := (unhide HX).cell 0 rfl
      have x1 := (unhide HX).cell 1 rfl
      have x2 := (unhide HX).cell 2 rfl
      have y0 := (unhide HY).cell 0 rfl
      have y1 := (unhide HY).cell 1 rfl
      have y2 := (unhide HY).cell 2 rfl
      go_wp2_with fail
      go_ret
      exact ⟨ret_bool ((unhide HU).symm), unhide HB⟩
    have h6 : a = a' := by omega
    have HU := hide (hf6 h1 h2 h6 h4)
    clear h4 h6
    subst h0
    obtain ⟨q, HQ⟩ : ∃ q : Bool, Hid (decide (((0 : Int), b, c) = (a', b', c')) = q) := ⟨_, rfl⟩
    have x0 := (unhide HX).cell 0 rfl
    have x1 := (unhide HX).cell 1 rfl
    have x2 := (unhide HX).cell 2 rfl
    have y0 := (unhide HY).cell 0 rfl
    have y1 := (unhide HY).cell 1 rfl
    have y2 := (unhide HY).cell 2 rfl
    go_enter Try.func141, Try.ntmps141
    go_wp2_with fail
    refine (c73 (0 : Int) b c _).mono ?_
    rintro e w1 ⟨rfl, hb⟩
    clear x0 x1 x2 y0 y1 y2
    replace HB := hide (below_tr (unhide HB) hb)
    replace HX := hide ((unhide HX).bel hb)
    replace HY := hide ((unhide HY).bel hb)
    replace HR := hide ((unhide HR).bel hb)
    clear hb
    have x0 := (unhide HX).cell 0 rfl
    have x1 := (unhide HX).cell 1 rfl
    have x2 := (unhide HX).cell 2 rfl
    have y0 := (unhide HY).cell 0 rfl
    have y1 := (unhide HY).cell 1 rfl
    have y2 := (unhide HY).cell 2 rfl
    go_wp2_with fail
    refine (c73 a' b' c' _).mono ?_
    rintro e w2 ⟨rfl, hb⟩
    clear x0 x1 x2 y0 y1 y2
    replace HB := hide (below_tr (unhide HB) hb)
    replace HX := hide ((unhide HX).bel hb)
    replace HY := hide ((unhide HY).bel hb)
    replace HR := hide ((unhide HR).bel hb)
    clear hb
    have x0 := (unhide HX).cell 0 rfl
    have x1 := (unhide HX).cell 1 rfl
    have x2 := (unhide HX).cell 2 rfl
    have y0 := (unhide HY).cell 0 rfl
    have y1 := (unhide HY).cell 1 rfl
    have y2 := (unhide HY).cell 2 rfl
    go_wp2_with fail
    go_ret
    exact ⟨ret_bool (by rw [unhide HU]; first | rfl | (simp; done) | (simp; intro h; exact absurd h (by omega))), unhide HB⟩
  have d0 : (a == 0) = false := by rw [beq_eq_false_iff_ne]; exact h0
  have HG := hide (grown1 (b := b) (a' := a') (b' := b') (ps := ps) h0)
  clear h0
  rcases h4 : hedGrown a b a' b' ps with _ | _
  case false =>
    have HU := hide (hf4 (c := c) (c' := c') h4)
    have x0 := (unhide HX).cell 0 rfl
    have x1 := (unhide HX).cell 1 rfl
    have x2 := (unhide HX).cell 2 rfl
    have y0 := (unhide HY).cell 0 rfl
    have y1 := (unhide HY).cell 1 rfl
    have y2 := (unhide HY).cell 2 rfl
    go_enter Try.func141, Try.ntmps141
    go_wp2_with fail
    refine (c73 a b c _).mono ?_
    rintro e w1 ⟨rfl, hb⟩
    clear x0 x1 x2 y0 y1 y2
    replace HB := hide (below_tr (unhide HB) hb)
    replace HX := hide ((unhide HX).bel hb)
    replace HY := hide ((unhide HY).bel hb)
    replace HR := hide ((unhide HR).bel hb)
    clear hb
    have x0 := (unhide HX).cell 0 rfl
    have x1 := (unhide HX).cell 1 rfl
    have x2 := (unhide HX).cell 2 rfl
    have y0 := (unhide HY).cell 0 rfl
    have y1 := (unhide HY).cell 1 rfl
    have y2 := (unhide HY).cell 2 rfl
    go_wp2_with fail
    refine (c73 a' b' c' _).mono ?_
    rintro e w2 ⟨rfl, hb⟩
    clear x0 x1 x2 y0 y1 y2
    replace HB := hide (below_tr (unhide HB) hb)
    replace HX := hide ((unhide HX).bel hb)
    replace HY := hide ((unhide HY).bel hb)
    replace HR := hide ((unhide HR).bel hb)
    clear hb
    have x0 := (unhide HX).cell 0 rfl
    have x1 := (unhide HX).cell 1 rfl
    have x2 := (unhide HX).cell 2 rfl
    have y0 := (unhide HY).cell 0 rfl
    have y1 := (unhide HY).cell 1 rfl
    have y2 := (unhide HY).cell 2 rfl
    go_wp2_with fail
    refine (dnB (c195 ps a b a' b' _ n cap _ (unhide HN) hcap hm (unhide HR))).mono ?_
    rintro e w3 ⟨rfl, hb⟩
    rw [← unhide HG, h4]
    clear x0 x1 x2 y0 y1 y2
    replace HB := hide (below_tr (unhide HB) hb)
    replace HX := hide ((unhide HX).bel hb)
    replace HY := hide ((unhide HY).bel hb)
    replace HR := hide ((unhide HR).bel hb)
    clear hb
    have x0 := (unhide HX).cell 0 rfl
    have x1 := (unhide HX).cell 1 rfl
    have x2 := (unhide HX).cell 2 rfl
    have y0 := (unhide HY).cell 0 rfl
    have y1 := (unhide HY).cell 1 rfl
    have y2 := (unhide HY).cell 2 rfl
    go_wp2_with fail
    go_ret
    exact ⟨ret_bool ((unhide HU).symm), unhide HB⟩
  by_cases h5 : a < a'
  case pos =>
    have HU := hide (hf5 h1 h2 h5 h4)
    have x0 := (unhide HX).cell 0 rfl
    have x1 := (unhide HX).cell 1 rfl
    have x2 := (unhide HX).cell 2 rfl
    have y0 := (unhide HY).cell 0 rfl
    have y1 := (unhide HY).cell 1 rfl
    have y2 := (unhide HY).cell 2 rfl
    go_enter Try.func141, Try.ntmps141
    go_wp2_with fail
    refine (c73 a b c _).mono ?_
    rintro e w1 ⟨rfl, hb⟩
    clear x0 x1 x2 y0 y1 y2
    replace HB := hide (below_tr (unhide HB) hb)
    replace HX := hide ((unhide HX).bel hb)
    replace HY := hide ((unhide HY).bel hb)
    replace HR := hide ((unhide HR).bel hb)
    clear hb
    have x0 := (unhide HX).cell 0 rfl
    have x1 := (unhide HX).cell 1 rfl
    have x2 := (unhide HX).cell 2 rfl
    have y0 := (unhide HY).cell 0 rfl
    have y1 := (unhide HY).cell 1 rfl
    have y2 := (unhide HY).cell 2 rfl
    go_wp2_with fail
    refine (c73 a' b' c' _).mono ?_
    rintro e w2 ⟨rfl, hb⟩
    clear x0 x1 x2 y0 y1 y2
    replace HB := hide (below_tr (unhide HB) hb)
    replace HX := hide ((unhide HX).bel hb)
    replace HY := hide ((unhide HY).bel hb)
    replace HR := hide ((unhide HR).bel hb)
    clear hb
    have x0 := (unhide HX).cell 0 rfl
    have x1 := (unhide HX).cell 1 rfl
    have x2 := (unhide HX).cell 2 rfl
    have y0 := (unhide HY).cell 0 rfl
    have y1 := (unhide HY).cell 1 rfl
    have y2 := (unhide HY).cell 2 rfl
    go_wp2_with fail
    refine (dnB (c195 ps a b a' b' _ n cap _ (unhide HN) hcap hm (unhide HR))).mono ?_
    rintro e w3 ⟨rfl, hb⟩
    rw [← unhide HG, h4]
    clear x0 x1 x2 y0 y1 y2
    replace HB := hide (below_tr (unhide HB) hb)
    replace HX := hide ((unhide HX).bel hb)
    replace HY := hide ((unhide HY).bel hb)
    replace HR := hide ((unhide HR).bel hb)
    clear hb
    have x0 := (unhide HX).cell 0 rfl
    have x1 := (unhide HX).cell 1 rfl
    have x2 := (unhide HX).cell 2 rfl
    have y0 := (unhide HY).cell 0 rfl
    have y1 := (unhide HY).cell 1 rfl
    have y2 := (unhide HY).cell 2 rfl
    go_wp2_with fail
    go_ret
    exact ⟨ret_bool ((unhide HU).symm), unhide HB⟩
  have h6 : a = a' := by omega
  have HU := hide (hf6 h1 h2 h6 h4)
  clear h6
  obtain ⟨q, HQ⟩ : ∃ q : Bool, Hid (decide ((a, b, c) = (a', b', c')) = q) := ⟨_, rfl⟩
  have x0 := (unhide HX).cell 0 rfl
  have x1 := (unhide HX).cell 1 rfl
  have x2 := (unhide HX).cell 2 rfl
  have y0 := (unhide HY).cell 0 rfl
  have y1 := (unhide HY).cell 1 rfl
  have y2 := (unhide HY).cell 2 rfl
  go_enter Try.func141, Try.ntmps141
  go_wp2_with fail
  refine (c73 a b c _).mono ?_
  rintro e w1 ⟨rfl, hb⟩
  clear x0 x1 x2 y0 y1 y2
  replace HB := hide (below_tr (unhide HB) hb)
  replace HX := hide ((unhide HX).bel hb)
  replace HY := hide ((unhide HY).bel hb)
  replace HR := hide ((unhide HR).bel hb)
  clear hb
  have x0 := (unhide HX).cell 0 rfl
  have x1 := (unhide HX).cell 1 rfl
  have x2 := (unhide HX).cell 2 rfl
  have y0 := (unhide HY).cell 0 rfl
  have y1 := (unhide HY).cell 1 rfl
  have y2 := (unhide HY).cell 2 rfl
  go_wp2_with fail
  refine (c73 a' b' c' _).mono ?_
  rintro e w2 ⟨rfl, hb⟩
  clear x0 x1 x2 y0 y1 y2
  replace HB := hide (below_tr (unhide HB) hb)
  replace HX := hide ((unhide HX).bel hb)
  replace HY := hide ((unhide HY).bel hb)
  replace HR := hide ((unhide HR).bel hb)
  clear hb
  have x0 := (unhide HX).cell 0 rfl
  have x1 := (unhide HX).cell 1 rfl
  have x2 := (unhide HX).cell 2 rfl
  have y0 := (unhide HY).cell 0 rfl
  have y1 := (unhide HY).cell 1 rfl
  have y2 := (unhide HY).cell 2 rfl
  go_wp2_with fail
  refine (dnB (c195 ps a b a' b' _ n cap _ (unhide HN) hcap hm (unhide HR))).mono ?_
  rintro e w3 ⟨rfl, hb⟩
  rw [← unhide HG, h4]
  clear x0 x1 x2 y0 y1 y2
  replace HB := hide (below_tr (unhide HB) hb)
  replace HX := hide ((unhide HX).bel hb)
  replace HY := hide ((unhide HY).bel hb)
  replace HR := hide ((unhide HR).bel hb)
  clear hb
  have x0 := (unhide HX).cell 0 rfl
  have x1 := (unhide HX).cell 1 rfl
  have x2 := (unhide HX).cell 2 rfl
  have y0 := (unhide HY).cell 0 rfl
  have y1 := (unhide HY).cell 1 rfl
  have y2 := (unhide HY).cell 2 rfl
  go_wp2_with fail
  go_ret
  exact ⟨ret_bool (by rw [unhide HU]; first | rfl | (simp; done) | (simp; intro h; exact absurd h (by omega))), unhide HB⟩

end Go.Proofs.Ytmlbphmbffkdnaa
