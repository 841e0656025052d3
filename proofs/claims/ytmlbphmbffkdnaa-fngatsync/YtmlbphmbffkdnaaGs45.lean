/-
  Texts of the proof, what it needs of them: Hedc.
-/
import Derived.Test.YtmlbphmbffkdnaaGs18
import Derived.Test.YtmlbphmbffkdnaaGs28
import Derived.Test.YtmlbphmbffkdnaaGs44
namespace Go.Proofs.Ytmlbphmbffkdnaa
open Go.RowKit
set_option linter.unusedVariables false
set_option maxRecDepth 100000

/-- what shows that a head's entries begin with this one's -/
def hedGrown (a b a' b' : Int) (ps : List Int) : Bool := if a = 0 then decide (ps.length = 0) else Tm.conCheck a b a' b' ps
def hedFollows (a b c a' b' c' : Int) (ps : List Int) : Bool := hedOk a b c && (hedOk a' b' c' && (decide (a ≤ a') && (hedGrown a b a' b' ps && (decide (a < a') || decide ((a, b, c) = (a', b', c'))))))
theorem hf1 {a b c a' b' c' : Int} {ps : List Int} (h : hedOk a b c = false) : hedFollows a b c a' b' c' ps = false := by unfold hedFollows; rw [h]; rfl
theorem hf2 {a b c a' b' c' : Int} {ps : List Int} (h : hedOk a' b' c' = false) : hedFollows a b c a' b' c' ps = false := by unfold hedFollows; rw [h]; cases hedOk a b c <;> rfl
theorem hf3 {a b c a' b' c' : Int} {ps : List Int} (h : a' < a) : hedFollows a b c a' b' c' ps = false := by
  have : decide (a ≤ a') = false := by rw [decide_eq_false_iff_not]; omega
  unfold hedFollows; rw [this]; cases hedOk a b c <;> cases hedOk a' b' c' <;> rfl
theorem hf4 {a b c a' b' c' : Int} {ps : List Int} (h : hedGrown a b a' b' ps = false) : hedFollows a b c a' b' c' ps = false := by
  unfold hedFollows; rw [h]; cases hedOk a b c <;> cases hedOk a' b' c' <;> cases decide (a ≤ a') <;> rfl
theorem hf5 {a b c a' b' c' : Int} {ps : List Int} (h1 : hedOk a b c = true) (h2 : hedOk a' b' c' = true) (h : a < a') (hg : hedGrown a b a' b' ps = true) : hedFollows a b c a' b' c' ps = true := by
  unfold hedFollows; rw [h1, h2, hg, decide_eq_true h, decide_eq_true (show a ≤ a' by omega)]; rfl
theorem hf6 {a b c a' b' c' : Int} {ps : List Int} (h1 : hedOk a b c = true) (h2 : hedOk a' b' c' = true) (h : a = a') (hg : hedGrown a b a' b' ps = true) : hedFollows a b c a' b' c' ps = decide ((a, b, c) = (a', b', c')) := by
  have : decide (a < a') = false := by rw [decide_eq_false_iff_not]; omega
  unfold hedFollows; rw [h1, h2, hg, this, decide_eq_true (show a ≤ a' by omega)]; simp
theorem grown0 {b a' b' : Int} {ps : List Int} {a : Int} (h : a = 0) : hedGrown a b a' b' ps = decide (ps.length = 0) := by unfold hedGrown; rw [if_pos h]
theorem grown1 {b a' b' : Int} {ps : List Int} {a : Int} (h : ¬ a = 0) : hedGrown a b a' b' ps = Tm.conCheck a b a' b' ps := by unfold hedGrown; rw [if_neg h]

set_option maxHeartbeats 2000000 in
theorem c143 (a b c a' b' c' : Int) (ps : List Int) (ao : Option Addr) (n cap : Nat) (w : World) (hn : ps.length = n) (hcap : n ≤ cap) (hm : n ≤ 1048576) (hr : Row w ao ps) :
    Calls Try.prog 143 #[hedV a b c, hedV a' b' c', .slice ao n cap] w fun e w' => e = .returned (.bool (hedGrown a b a' b' ps)) ∧ Below w.heap.size w w' := by
  have HX := hide ((box_new w [.int .i64 a, .int .i64 b, .int .i64 c] 61 (by simp [Value.oneCell'])).alloc (.cells #[.int .i64 a', .int .i64 b', .int .i64 c'] 61))
  have HY0 := box_new (w.alloc (.cells #[.int .i64 a, .int .i64 b, .int .i64 c] 61)) [.int .i64 a', .int .i64 b', .int .i64 c'] 61 (by simp [Value.oneCell'])
  rw [show (w.alloc (.cells #[.int .i64 a, .int .i64 b, .int .i64 c] 61)).heap.size = w.heap.size + 1 by simp] at HY0
  have HY := hide HY0
  have HB := hide (below_al (o := .cells #[.int .i64 a', .int .i64 b', .int .i64 c'] 61) (below_a (w := w) (.cells #[.int .i64 a, .int .i64 b, .int .i64 c] 61)))
  have HR := hide ((hr.bel (below_a (.cells #[.int .i64 a, .int .i64 b, .int .i64 c] 61))).bel (below_a (.cells #[.int .i64 a', .int .i64 b', .int .i64 c'] 61)))
  have HN := hide hn
  clear HY0 hr hn
  by_cases h0 : a = 0
  case pos =>
    have HU := hide (grown0 (b := b) (a' := a') (b' := b') (ps := ps) h0)
    rw [unhide HN] at HU
    subst h0
    have x0 := (unhide HX).cell 0 rfl
    have x1 := (unhide HX).cell 1 rfl
    have x2 := (unhide HX).cell 2 rfl
    have y0 := (unhide HY).cell 0 rfl
    have y1 := (unhide HY).cell 1 rfl
    have y2 := (unhide HY).cell 2 rfl
    go_enter Try.func143, Try.ntmps143
    go_wp2_with fail
    go_ret
    exact ⟨ret_bool (by rw [unhide HU]; first | rfl | (rw [Bool.eq_iff_iff]; simp; done) | (rw [Bool.eq_iff_iff]; simp; omega)), unhide HB⟩
  have HU := hide (grown1 (b := b) (a' := a') (b' := b') (ps := ps) h0)
  have d0 : (a == 0) = false := by rw [beq_eq_false_iff_ne]; exact h0
  clear h0
  have x0 := (unhide HX).cell 0 rfl
  have x1 := (unhide HX).cell 1 rfl
  have x2 := (unhide HX).cell 2 rfl
  have y0 := (unhide HY).cell 0 rfl
  have y1 := (unhide HY).cell 1 rfl
  have y2 := (unhide HY).cell 2 rfl
  go_enter Try.func143, Try.ntmps143
  go_wp2_with fail
  refine (c196 ps a b a' b' _ n cap _ (unhide HN) hcap hm (unhide HR)).mono ?_
  rintro e w1 ⟨rfl, hb⟩
  clear x0 x1 x2 y0 y1 y2
  replace HB := hide (below_tr (unhide HB) hb)
  replace HX := hide ((unhide HX).bel hb)
  replace HY := hide ((unhide HY).bel hb)
  replace HR := hide ((unhide HR).bel hb)
  clear hb
  have x0 := (unhide HX).cell 0 rfl
  have x1 := (unhide HX).cell 1 rfl
  have x2 := (unhide HX).cell 2 rfl
  have y0 := (unhide HY).cell 0 rfl
  have y1 := (unhide HY).cell 1 rfl
  have y2 := (unhide HY).cell 2 rfl
  go_wp2_with fail
  go_ret
  exact ⟨ret_bool (unhide HU).symm, unhide HB⟩

set_option maxHeartbeats 4000000 in
theorem c60 (a b c a' b' c' : Int) (ps : List Int) (ao : Option Addr) (n cap : Nat) (w : World) (hn : ps.length = n) (hcap : n ≤ cap) (hm : n ≤ 1048576) (hr : Row w ao ps) :
    Calls Try.prog 60 #[hedV a b c, hedV a' b' c', .slice ao n cap] w fun e w' => e = .returned (.bool (hedFollows a b c a' b' c' ps)) ∧ Below w.heap.size w w' := by
  have HX := hide ((box_new w [.int .i64 a, .int .i64 b, .int .i64 c] 61 (by simp [Value.oneCell'])).alloc (.cells #[.int .i64 a', .int .i64 b', .int .i64 c'] 61))
  have HY0 := box_new (w.alloc (.cells #[.int .i64 a, .int .i64 b, .int .i64 c] 61)) [.int .i64 a', .int .i64 b', .int .i64 c'] 61 (by simp [Value.oneCell'])
  rw [show (w.alloc (.cells #[.int .i64 a, .int .i64 b, .int .i64 c] 61)).heap.size = w.heap.size + 1 by simp] at HY0
  have HY := hide HY0
  have HB := hide (below_al (o := .cells #[.int .i64 a', .int .i64 b', .int .i64 c'] 61) (below_a (w := w) (.cells #[.int .i64 a, .int .i64 b, .int .i64 c] 61)))
  have HR := hide ((hr.bel (below_a (.cells #[.int .i64 a, .int .i64 b, .int .i64 c] 61))).bel (below_a (.cells #[.int .i64 a', .int .i64 b', .int .i64 c'] 61)))
  have HN := hide hn
  clear HY0 hr hn
  rcases h1 : hedOk a b c with _ | _
  case false =>
    have HU := hide (hf1 (a' := a') (b' := b') (c' := c') (ps := ps) h1)
    have x0 := (unhide HX).cell 0 rfl
    have x1 := (unhide HX).cell 1 rfl
    have x2 := (unhide HX).cell 2 rfl
    have y0 := (unhide HY).cell 0 rfl
    have y1 := (unhide HY).cell 1 rfl
    have y2 := (unhide HY).cell 2 rfl
    go_enter Try.func60, Try.ntmps60
    go_wp2_with fail
    refine (c142 a b c _).mono ?_
    rintro e w1 ⟨rfl, hb⟩
    clear x0 x1 x2 y0 y1 y2
    replace HB := hide (below_tr (unhide HB) hb)
    replace HX := hide ((unhide HX).bel hb)
    replace HY := hide ((unhide HY).bel hb)
    replace HR := hide ((unhide HR).bel hb)
    clear hb
    have x0 := (unhide HX).cell 0 rfl
    have x1 := (unhide HX).cell 1 rfl
    have x2 := (unhide HX).cell 2 rfl
    have y0 := (unhide HY).cell 0 rfl
    have y1 := (unhide HY).cell 1 rfl
    have y2 := (unhide HY).cell 2 rfl
    go_wp2_with fail
    go_ret
    exact ⟨ret_bool ((unhide HU).symm), unhide HB⟩
  rcases h2 : hedOk a' b' c' with _ | _
  case false =>
    have HU := hide (hf2 (a := a) (b := b) (c := c) (ps := ps) h2)
    have x0 := (unhide HX).cell 0 rfl
    have x1 := (unhide HX).cell 1 rfl
    have x2 := (unhide HX).cell 2 rfl
    have y0 := (unhide HY).cell 0 rfl
    have y1 := (unhide HY).cell 1 rfl
    have y2 := (unhide HY).cell 2 rfl
    go_enter Try.func60, Try.ntmps60
    go_wp2_with fail
    refine (c142 a b c _).mono ?_
    rintro e w1 ⟨rfl, hb⟩
    clear x0 x1 x2 y0 y1 y2
    replace HB := hide (below_tr (unhide HB) hb)
    replace HX := hide ((unhide HX).bel hb)
    replace HY := hide ((unhide HY).bel hb)
    replace HR := hide ((unhide HR).bel hb)
    clear hb
    have x0 := (unhide HX).cell 0 rfl
    have x1 := (unhide HX).cell 1 rfl
    have x2 := (unhide HX).cell 2 rfl
    have y0 := (unhide HY).cell 0 rfl
    have y1 := (unhide HY).cell 1 rfl
    have y2 := (unhide HY).cell 2 rfl
    go_wp2_with fail
    refine (c142 a' b' c' _).mono ?_
    rintro e w2 ⟨rfl, hb⟩
    clear x0 x1 x2 y0 y1 y2
    replace HB := hide (below_tr (unhide HB) hb)
    replace HX := hide ((unhide HX).bel hb)
    replace HY := hide ((unhide HY).bel hb)
    replace HR := hide ((unhide HR).bel hb)
    clear hb
    have x0 := (unhide HX).cell 0 rfl
    have x1 := (unhide HX).cell 1 rfl
    have x2 := (unhide HX).cell 2 rfl
    have y0 := (unhide HY).cell 0 rfl
    have y1 := (unhide HY).cell 1 rfl
    have y2 := (unhide HY).cell 2 rfl
    go_wp2_with fail
    go_ret
    exact ⟨ret_bool ((unhide HU).symm), unhide HB⟩
  by_cases h3 : a' < a
  case pos =>
    have HU := hide (hf3 (b := b) (c := c) (b' := b') (c' := c') (ps := ps) h3)
    have x0 := (unhide HX).cell 0 rfl
    have x1 := (unhide HX).cell 1 rfl
    have x2 := (unhide HX).cell 2 rfl
    have y0 := (unhide HY).cell 0 rfl
    have y1 := (unhide HY).cell 1 rfl
    have y2 := (unhide HY).cell 2 rfl
    go_enter Try.func60, Try.ntmps60
    go_wp2_with fail
    refine (c142 a b c _).mono ?_
    rintro e w1 ⟨rfl, hb⟩
    clear x0 x1 x2 y0 y1 y2
    replace HB := hide (below_tr (unhide HB) hb)
    replace HX := hide ((unhide HX).bel hb)
    replace HY := hide ((unhide HY).bel hb)
    replace HR := hide ((unhide HR).bel hb)
    clear hb
    have x0 := (unhide HX).cell 0 rfl
    have x1 := (unhide HX).cell 1 rfl
    have x2 := (unhide HX).cell 2 rfl
    have y0 := (unhide HY).cell 0 rfl
    have y1 := (unhide HY).cell 1 rfl
    have y2 := (unhide HY).cell 2 rfl
    go_wp2_with fail
    refine (c142 a' b' c' _).mono ?_
    rintro e w2 ⟨rfl, hb⟩
    clear x0 x1 x2 y0 y1 y2
    replace HB := hide (below_tr (unhide HB) hb)
    replace HX := hide ((unhide HX).bel hb)
    replace HY := hide ((unhide HY).bel hb)
    replace HR := hide ((unhide HR).bel hb)
    clear hb
    have x0 := (unhide HX).cell 0 rfl
    have x1 := (unhide HX).cell 1 rfl
    have x2 := (unhide HX).cell 2 rfl
    have y0 := (unhide HY).cell 0 rfl
    have y1 := (unhide HY).cell 1 rfl
    have y2 := (unhide HY).cell 2 rfl
    go_wp2_with fail
    go_ret
    exact ⟨ret_bool ((unhide HU).symm), unhide HB⟩
  rcases h4 : hedGrown a b a' b' ps with _ | _
  case false =>
    have HU := hide (hf4 (c := c) (c' := c') h4)
    have x0 := (unhide HX).cell 0 rfl
    have x1 := (unhide HX).cell 1 rfl
    have x2 := (unhide HX).cell 2 rfl
    have y0 := (unhide HY).cell 0 rfl
    have y1 := (unhide HY).cell 1 rfl
    have y2 := (unhide HY).cell 2 rfl
    go_enter Try.func60, Try.ntmps60
    go_wp2_with fail
    refine (c142 a b c _).mono ?_
    rintro e w1 ⟨rfl, hb⟩
    clear x0 x1 x2 y0 y1 y2
    replace HB := hide (below_tr (unhide HB) hb)
    replace HX := hide ((unhide HX).bel hb)
    replace HY := hide ((unhide HY).bel hb)
    replace HR := hide ((unhide HR).bel hb)
    clear hb
    have x0 := (unhide HX).cell 0 rfl
    have x1 := (unhide HX).cell 1 rfl
    have x2 := (unhide HX).cell 2 rfl
    have y0 := (unhide HY).cell 0 rfl
    have y1 := (unhide HY).cell 1 rfl
    have y2 := (unhide HY).cell 2 rfl
    go_wp2_with fail
    refine (c142 a' b' c' _).mono ?_
    rintro e w2 ⟨rfl, hb⟩
    clear x0 x1 x2 y0 y1 y2
    replace HB := hide (below_tr (unhide HB) hb)
    replace HX := hide ((unhide HX).bel hb)
    replace HY := hide ((unhide HY).bel hb)
    replace HR := hide ((unhide HR).bel hb)
    clear hb
    have x0 := (unhide HX).cell 0 rfl
    have x1 := (unhide HX).cell 1 rfl
    have x2 := (unhide HX).cell 2 rfl
    have y0 := (unhide HY).cell 0 rfl
    have y1 := (unhide HY).cell 1 rfl
    have y2 := (unhide HY).cell 2 rfl
    go_wp2_with fail
    refine (c143 a b c a' b' c' ps _ n cap _ (unhide HN) hcap hm (unhide HR)).mono ?_
    rintro e w3 ⟨rfl, hb⟩
    clear x0 x1 x2 y0 y1 y2
    replace HB := hide (below_tr (unhide HB) hb)
    replace HX := hide ((unhide HX).bel hb)
    replace HY := hide ((unhide HY).bel hb)
    replace HR := hide ((unhide HR).bel hb)
    clear hb
    have x0 := (unhide HX).cell 0 rfl
    have x1 := (unhide HX).cell 1 rfl
    have x2 := (unhide HX).cell 2 rfl
    have y0 := (unhide HY).cell 0 rfl
    have y1 := (unhide HY).cell 1 rfl
    have y2 := (unhide HY).cell 2 rfl
    go_wp2_with fail
    go_ret
    exact ⟨ret_bool ((unhide HU).symm), unhide HB⟩
  by_cases h5 : a < a'
  case pos =>
    have HU := hide (hf5 h1 h2 h5 h4)
    have x0 := (unhide HX).cell 0 rfl
    have x1 := (unhide HX).cell 1 rfl
    have x2 := (unhide HX).cell 2 rfl
    have y0 := (unhide HY).cell 0 rfl
    have y1 := (unhide HY).cell 1 rfl
    have y2 := (unhide HY).cell 2 rfl
    go_enter Try.func60, Try.ntmps60
    go_wp2_with fail
    refine (c142 a b c _).mono ?_
    rintro e w1 ⟨rfl, hb⟩
    clear x0 x1 x2 y0 y1 y2
    replace HB := hide (below_tr (unhide HB) hb)
    replace HX := hide ((unhide HX).bel hb)
    replace HY := hide ((unhide HY).bel hb)
    replace HR := hide ((unhide HR).bel hb)
    clear hb
    have x0 := (unhide HX).cell 0 rfl
    have x1 := (unhide HX).cell 1 rfl
    have x2 := (unhide HX).cell 2 rfl
    have y0 := (unhide HY).cell 0 rfl
    have y1 := (unhide HY).cell 1 rfl
    have y2 := (unhide HY).cell 2 rfl
    go_wp2_with fail
    refine (c142 a' b' c' _).mono ?_
    rintro e w2 ⟨rfl, hb⟩
    clear x0 x1 x2 y0 y1 y2
    replace HB := hide (below_tr (unhide HB) hb)
    replace HX := hide ((unhide HX).bel hb)
    replace HY := hide ((unhide HY).bel hb)
    replace HR := hide ((unhide HR).bel hb)
    clear hb
    have x0 := (unhide HX).cell 0 rfl
    have x1 := (unhide HX).cell 1 rfl
    have x2 := (unhide HX).cell 2 rfl
    have y0 := (unhide HY).cell 0 rfl
    have y1 := (unhide HY).cell 1 rfl
    have y2 := (unhide HY).cell 2 rfl
    go_wp2_with fail
    refine (c143 a b c a' b' c' ps _ n cap _ (unhide HN) hcap hm (unhide HR)).mono ?_
    rintro e w3 ⟨rfl, hb⟩
    clear x0 x1 x2 y0 y1 y2
    replace HB := hide (below_tr (unhide HB) hb)
    replace HX := hide ((unhide HX).bel hb)
    replace HY := hide ((unhide HY).bel hb)
    replace HR := hide ((unhide HR).bel hb)
    clear hb
    have x0 := (unhide HX).cell 0 rfl
    have x1 := (unhide HX).cell 1 rfl
    have x2 := (unhide HX).cell 2 rfl
    have y0 := (unhide HY).cell 0 rfl
    have y1 := (unhide HY).cell 1 rfl
    have y2 := (unhide HY).cell 2 rfl
    go_wp2_with fail
    go_ret
    exact ⟨ret_bool ((unhide HU).symm), unhide HB⟩
  have h6 : a = a' := by omega
  have HU := hide (hf6 h1 h2 h6 h4)
  clear h6
  obtain ⟨q, HQ⟩ : ∃ q : Bool, Hid (decide ((a', b', c') = (a, b, c)) = q) := ⟨_, rfl⟩
  have HC : Hid (q = decide ((a, b, c) = (a', b', c'))) := by unfold Hid; rw [← unhide HQ, Bool.eq_iff_iff]; simp only [decide_eq_true_eq]; exact ⟨fun h => h.symm, fun h => h.symm⟩
  have x0 := (unhide HX).cell 0 rfl
  have x1 := (unhide HX).cell 1 rfl
  have x2 := (unhide HX).cell 2 rfl
  have y0 := (unhide HY).cell 0 rfl
  have y1 := (unhide HY).cell 1 rfl
  have y2 := (unhide HY).cell 2 rfl
  go_enter Try.func60, Try.ntmps60
  go_wp2_with fail
  refine (c142 a b c _).mono ?_
  rintro e w1 ⟨rfl, hb⟩
  clear x0 x1 x2 y0 y1 y2
  replace HB := hide (below_tr (unhide HB) hb)
  replace HX := hide ((unhide HX).bel hb)
  replace HY := hide ((unhide HY).bel hb)
  replace HR := hide ((unhide HR).bel hb)
  clear hb
  have x0 := (unhide HX).cell 0 rfl
  have x1 := (unhide HX).cell 1 rfl
  have x2 := (unhide HX).cell 2 rfl
  have y0 := (unhide HY).cell 0 rfl
  have y1 := (unhide HY).cell 1 rfl
  have y2 := (unhide HY).cell 2 rfl
  go_wp2_with fail
  refine (c142 a' b' c' _).mono ?_
  rintro e w2 ⟨rfl, hb⟩
  clear x0 x1 x2 y0 y1 y2
  replace HB := hide (below_tr (unhide HB) hb)
  replace HX := hide ((unhide HX).bel hb)
  replace HY := hide ((unhide HY).bel hb)
  replace HR := hide ((unhide HR).bel hb)
  clear hb
  have x0 := (unhide HX).cell 0 rfl
  have x1 := (unhide HX).cell 1 rfl
  have x2 := (unhide HX).cell 2 rfl
  have y0 := (unhide HY).cell 0 rfl
  have y1 := (unhide HY).cell 1 rfl
  have y2 := (unhide HY).cell 2 rfl
  go_wp2_with fail
  refine (c143 a b c a' b' c' ps _ n cap _ (unhide HN) hcap hm (unhide HR)).mono ?_
  rintro e w3 ⟨rfl, hb⟩
  clear x0 x1 x2 y0 y1 y2
  replace HB := hide (below_tr (unhide HB) hb)
  replace HX := hide ((unhide HX).bel hb)
  replace HY := hide ((unhide HY).bel hb)
  replace HR := hide ((unhide HR).bel hb)
  clear hb
  have x0 := (unhide HX).cell 0 rfl
  have x1 := (unhide HX).cell 1 rfl
  have x2 := (unhide HX).cell 2 rfl
  have y0 := (unhide HY).cell 0 rfl
  have y1 := (unhide HY).cell 1 rfl
  have y2 := (unhide HY).cell 2 rfl
  go_wp2_with fail
  refine (c144 a' b' c' a b c _).mono ?_
  rintro e w4 ⟨rfl, hb⟩
  rw [unhide HQ]
  clear x0 x1 x2 y0 y1 y2
  replace HB := hide (below_tr (unhide HB) hb)
  replace HX := hide ((unhide HX).bel hb)
  replace HY := hide ((unhide HY).bel hb)
  replace HR := hide ((unhide HR).bel hb)
  clear hb
  have x0 := (unhide HX).cell 0 rfl
  have x1 := (unhide HX).cell 1 rfl
  have x2 := (unhide HX).cell 2 rfl
  have y0 := (unhide HY).cell 0 rfl
  have y1 := (unhide HY).cell 1 rfl
  have y2 := (unhide HY).cell 2 rfl
  go_wp2_with fail
  go_ret
  exact ⟨ret_bool (by rw [unhide HU]; first | exact unhide HC | (rw [decide_eq_false (show ¬ a < a' by omega), Bool.false_or]; exact unhide HC)), unhide HB⟩

end Go.Proofs.Ytmlbphmbffkdnaa
