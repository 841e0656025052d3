/-
  Texts of the proof, what it needs of them: Gsw.
-/
import Derived.Test.YtmlbphmbffkdnaaGreatGh36
import Derived.Test.YtmlbphmbffkdnaaGreatGh43
import Derived.Test.YtmlbphmbffkdnaaGreatGh47
namespace Go.Proofs.YtmlbphmbffkdnaaGreat
open Go.RowKit
set_option linter.unusedVariables false
set_option maxRecDepth 100000

/-- whether somebody is let through -/
def showB (s l o : Int) (zs : List Int) (t who a c : Int) (d : Bool) (ps : List Int) : Bool := gatOk s l o zs && (decide (1 ≤ who ∧ who ≤ 5) && (decide (a = who) && (!d && (!hasB zs t && Tm.ownCheck o t (a, c, d) ps))))
def showH (s l o : Int) (zs : List Int) : Tm.Hed := if gatOk s l o zs = true then (s, l, o) else (0, 0, 0)
def showD (s l o : Int) (zs : List Int) (t who a c : Int) (d : Bool) (ps : List Int) : List Int := if gatOk s l o zs = true then (if showB s l o zs t who a c d ps = true then putI t zs else zs) else []
section
variable {s l o : Int} {zs : List Int} {t who a c : Int} {d : Bool} {ps : List Int}
theorem sh_no (h : gatOk s l o zs = false) : showB s l o zs t who a c d ps = false ∧ showH s l o zs = (0, 0, 0) ∧ showD s l o zs t who a c d ps = [] := by simp [showB, showH, showD, h]
theorem sh_not (h : gatOk s l o zs = true) (hb : showB s l o zs t who a c d ps = false) : showB s l o zs t who a c d ps = false ∧ showH s l o zs = (s, l, o) ∧ showD s l o zs t who a c d ps = zs := ⟨hb, by simp [showH, h], by simp [showD, h, hb]⟩
theorem sh_go (h : gatOk s l o zs = true) (hb : showB s l o zs t who a c d ps = true) : showB s l o zs t who a c d ps = true ∧ showH s l o zs = (s, l, o) ∧ showD s l o zs t who a c d ps = putI t zs := ⟨hb, by simp [showH, h], by simp [showD, h, hb]⟩
theorem sb_1 (h : decide (1 ≤ who ∧ who ≤ 5) = false) : showB s l o zs t who a c d ps = false := by unfold showB; rw [h]; cases gatOk s l o zs <;> rfl
theorem sb_2 (h : decide (a = who) = false) : showB s l o zs t who a c d ps = false := by unfold showB; rw [h]; cases gatOk s l o zs <;> cases decide (1 ≤ who ∧ who ≤ 5) <;> rfl
theorem sb_3 (h : d = true) : showB s l o zs t who a c d ps = false := by unfold showB; rw [h]; cases gatOk s l o zs <;> cases decide (1 ≤ who ∧ who ≤ 5) <;> cases decide (a = who) <;> rfl
theorem sb_4 (h : hasB zs t = true) : showB s l o zs t who a c d ps = false := by unfold showB; rw [h]; cases gatOk s l o zs <;> cases decide (1 ≤ who ∧ who ≤ 5) <;> cases decide (a = who) <;> cases d <;> rfl
theorem sb_5 (h : Tm.ownCheck o t (a, c, d) ps = false) : showB s l o zs t who a c d ps = false := by unfold showB; rw [h]; cases gatOk s l o zs <;> cases decide (1 ≤ who ∧ who ≤ 5) <;> cases decide (a = who) <;> cases d <;> cases hasB zs t <;> rfl
theorem sb_6 (h : gatOk s l o zs = true) (h1 : decide (1 ≤ who ∧ who ≤ 5) = true) (h2 : decide (a = who) = true) (h3 : d = false) (h4 : hasB zs t = false) (h5 : Tm.ownCheck o t (a, c, d) ps = true) : showB s l o zs t who a c d ps = true := by unfold showB; rw [h, h1, h2, h4, h5, h3]; rfl
end

set_option maxHeartbeats 8000000 in
theorem c6 (s l o : Int) (zs : List Int) (ao : Option Addr) (n cap : Nat) (t who a c : Int) (d : Bool) (ps : List Int) (bo : Option Addr) (m cap' : Nat) (w : World) (hn : zs.length = n) (hm : n ≤ 1048576) (hz : ao = none → cap = 0) (hr : Row w ao zs)
    (ht : -9223372036854775808 ≤ t ∧ t ≤ 9223372036854775807) (hf : FitR (a, c, d)) (hn2 : ps.length = m) (hc2 : m ≤ cap') (hm2 : m ≤ 1048576) (hr2 : Row w bo ps) : Calls Tryz.prog 6 #[gatV s l o (.slice ao n cap), .int .i64 t, .int .i64 who, rowV a c d, .slice bo m cap'] w (GTold2 w (showH s l o zs) (showD s l o zs t who a c d ps) (showB s l o zs t who a c d ps)) := by
  subst hn
  have HR := hide hr
  have HP := hide hr2
  have HZ := hide hz
  have HN2 := hide hn2
  have HFT := hide hf
  clear hr hr2 hz hn2 hf
  have HB := hide (Below.refl w.heap.size w)
  replace HB := hide (below_al (o := .cells #[.int .i64 s, .int .i64 l, .int .i64 o, .slice ao zs.length cap] 27) (unhide HB))
  replace HR := hide ((unhide HR).bel (below_a (.cells #[.int .i64 s, .int .i64 l, .int .i64 o, .slice ao zs.length cap] 27)))
  replace HP := hide ((unhide HP).bel (below_a (.cells #[.int .i64 s, .int .i64 l, .int .i64 o, .slice ao zs.length cap] 27)))
  have HX := hide (box_new w [.int .i64 s, .int .i64 l, .int .i64 o, .slice ao zs.length cap] 27 (by simp [Value.oneCell']))
  (try simp only [World.size_alloc] at HX)
  replace HB := hide (below_al (o := .cells #[.int .i64 a, .int .i64 c, .bool d] 29) (unhide HB))
  replace HR := hide ((unhide HR).bel (below_a (.cells #[.int .i64 a, .int .i64 c, .bool d] 29)))
  replace HP := hide ((unhide HP).bel (below_a (.cells #[.int .i64 a, .int .i64 c, .bool d] 29)))
  replace HX := hide ((unhide HX).bel (below_a (.cells #[.int .i64 a, .int .i64 c, .bool d] 29)))
  have HW := hide (box_new (w.alloc (.cells #[.int .i64 s, .int .i64 l, .int .i64 o, .slice ao zs.length cap] 27)) [.int .i64 a, .int .i64 c, .bool d] 29 (by simp [Value.oneCell']))
  (try simp only [World.size_alloc] at HW)
  replace HB := hide (below_al (o := .cells #[.int .i64 0, .int .i64 0, .int .i64 0, .slice none 0 0] 27) (unhide HB))
  replace HR := hide ((unhide HR).bel (below_a (.cells #[.int .i64 0, .int .i64 0, .int .i64 0, .slice none 0 0] 27)))
  replace HP := hide ((unhide HP).bel (below_a (.cells #[.int .i64 0, .int .i64 0, .int .i64 0, .slice none 0 0] 27)))
  replace HX := hide ((unhide HX).bel (below_a (.cells #[.int .i64 0, .int .i64 0, .int .i64 0, .slice none 0 0] 27)))
  replace HW := hide ((unhide HW).bel (below_a (.cells #[.int .i64 0, .int .i64 0, .int .i64 0, .slice none 0 0] 27)))
  have HY := hide (box_new ((w.alloc (.cells #[.int .i64 s, .int .i64 l, .int .i64 o, .slice ao zs.length cap] 27)).alloc (.cells #[.int .i64 a, .int .i64 c, .bool d] 29)) [.int .i64 0, .int .i64 0, .int .i64 0, .slice none 0 0] 27 (by simp [Value.oneCell']))
  (try simp only [World.size_alloc] at HY)
  have x0 := (unhide HX).cell 0 rfl
  have x1 := (unhide HX).cell 1 rfl
  have x2 := (unhide HX).cell 2 rfl
  have x3 := (unhide HX).cell 3 rfl
  have r0 := (unhide HW).cell 0 rfl
  have r1 := (unhide HW).cell 1 rfl
  have r2 := (unhide HW).cell 2 rfl
  have y0 := (unhide HY).cell 0 rfl
  have y0f := (unhide HY).frozen 0 rfl
  have y1 := (unhide HY).cell 1 rfl
  have y1f := (unhide HY).frozen 1 rfl
  have y2 := (unhide HY).cell 2 rfl
  have y2f := (unhide HY).frozen 2 rfl
  have y3 := (unhide HY).cell 3 rfl
  have y3f := (unhide HY).frozen 3 rfl
  go_enter Tryz.func6, Tryz.ntmps6
  go_wp2_with fail
  rcases h1 : gatOk s l o zs with _ | _
  case false =>
    have hg := sh_no (t := t) (who := who) (a := a) (c := c) (d := d) (ps := ps) h1
    refine (c13 s l o zs ao zs.length cap _ rfl (by omega) (unhide HR)).mono ?_
    rintro e w1 ⟨rfl, hb⟩
    rw [h1]
    (try clear x0 x1 x2 x3 r0 r1 r2 y0 y0f y1 y1f y2 y2f y3 y3f)
    replace HB := hide (below_tr (unhide HB) hb)
    replace HR := hide ((unhide HR).bel hb)
    replace HP := hide ((unhide HP).bel hb)
    replace HX := hide ((unhide HX).bel hb)
    replace HW := hide ((unhide HW).bel hb)
    replace HY := hide ((unhide HY).bel hb)
    clear hb
    have x0 := (unhide HX).cell 0 rfl
    have x1 := (unhide HX).cell 1 rfl
    have x2 := (unhide HX).cell 2 rfl
    have x3 := (unhide HX).cell 3 rfl
    have r0 := (unhide HW).cell 0 rfl
    have r1 := (unhide HW).cell 1 rfl
    have r2 := (unhide HW).cell 2 rfl
    have y0 := (unhide HY).cell 0 rfl
    have y0f := (unhide HY).frozen 0 rfl
    have y1 := (unhide HY).cell 1 rfl
    have y1f := (unhide HY).frozen 1 rfl
    have y2 := (unhide HY).cell 2 rfl
    have y2f := (unhide HY).frozen 2 rfl
    have y3 := (unhide HY).cell 3 rfl
    have y3f := (unhide HY).frozen 3 rfl
    go_wp2_with fail
    (try clear x0 x1 x2 x3 r0 r1 r2 y0 y0f y1 y1f y2 y2f y3 y3f)
    (try clear x0 x1 x2 x3 r0 r1 r2 y0 y0f y1 y1f y2 y2f y3 y3f)
    replace HX := hide ((unhide HX).oth (g' := w.heap.size + 1 + 1) (i := 0) (.int .i64 0) (by omega))
    replace HY := hide (box_put (unhide HY) 0 (.int .i64 0) (by simp))
    replace HB := hide (below_sc (p := ⟨w.heap.size + 1 + 1, 0, none⟩) (v := .int .i64 0) (unhide HB) (by dsimp only; omega))
    replace HX := hide ((unhide HX).oth (g' := w.heap.size + 1 + 1) (i := 1) (.int .i64 0) (by omega))
    replace HY := hide (box_put (unhide HY) 1 (.int .i64 0) (by simp))
    replace HB := hide (below_sc (p := ⟨w.heap.size + 1 + 1, 1, none⟩) (v := .int .i64 0) (unhide HB) (by dsimp only; omega))
    replace HX := hide ((unhide HX).oth (g' := w.heap.size + 1 + 1) (i := 2) (.int .i64 0) (by omega))
    replace HY := hide (box_put (unhide HY) 2 (.int .i64 0) (by simp))
    replace HB := hide (below_sc (p := ⟨w.heap.size + 1 + 1, 2, none⟩) (v := .int .i64 0) (unhide HB) (by dsimp only; omega))
    replace HX := hide ((unhide HX).oth (g' := w.heap.size + 1 + 1) (i := 3) (.slice none 0 0) (by omega))
    replace HY := hide (box_put (unhide HY) 3 (.slice none 0 0) (by simp))
    replace HB := hide (below_sc (p := ⟨w.heap.size + 1 + 1, 3, none⟩) (v := .slice none 0 0) (unhide HB) (by dsimp only; omega))
    replace HY := hide (show Box _ (w.heap.size + 1 + 1) [.int .i64 0, .int .i64 0, .int .i64 0, .slice none 0 0] from unhide HY)
    have x0 := (unhide HX).cell 0 rfl
    have x1 := (unhide HX).cell 1 rfl
    have x2 := (unhide HX).cell 2 rfl
    have x3 := (unhide HX).cell 3 rfl
    have r0 := (unhide HW).cell 0 rfl
    have r1 := (unhide HW).cell 1 rfl
    have r2 := (unhide HW).cell 2 rfl
    have y0 := (unhide HY).cell 0 rfl
    have y1 := (unhide HY).cell 1 rfl
    have y2 := (unhide HY).cell 2 rfl
    have y3 := (unhide HY).cell 3 rfl
    refine bodyPost_ret (v := .tuple #[gatV 0 0 0 (.slice none 0 0), .bool false]) (results_ct Tryz.results6 rfl (load_gat (unhide HY))) rfl ?_
    rw [hg.1, hg.2.1, hg.2.2]
    exact ⟨_, rfl, own_none _ _ (unhide HB).size, unhide HB⟩
  have HOK := hide h1
  refine (c13 s l o zs ao zs.length cap _ rfl (by omega) (unhide HR)).mono ?_
  rintro e w1 ⟨rfl, hb⟩
  rw [h1]
  (try clear x0 x1 x2 x3 r0 r1 r2 y0 y0f y1 y1f y2 y2f y3 y3f)
  replace HB := hide (below_tr (unhide HB) hb)
  replace HR := hide ((unhide HR).bel hb)
  replace HP := hide ((unhide HP).bel hb)
  replace HX := hide ((unhide HX).bel hb)
  replace HW := hide ((unhide HW).bel hb)
  replace HY := hide ((unhide HY).bel hb)
  clear hb
  have x0 := (unhide HX).cell 0 rfl
  have x1 := (unhide HX).cell 1 rfl
  have x2 := (unhide HX).cell 2 rfl
  have x3 := (unhide HX).cell 3 rfl
  have r0 := (unhide HW).cell 0 rfl
  have r1 := (unhide HW).cell 1 rfl
  have r2 := (unhide HW).cell 2 rfl
  have y0 := (unhide HY).cell 0 rfl
  have y0f := (unhide HY).frozen 0 rfl
  have y1 := (unhide HY).cell 1 rfl
  have y1f := (unhide HY).frozen 1 rfl
  have y2 := (unhide HY).cell 2 rfl
  have y2f := (unhide HY).frozen 2 rfl
  have y3 := (unhide HY).cell 3 rfl
  have y3f := (unhide HY).frozen 3 rfl
  go_wp2_with fail
  clear h1
  refine (c33 zs ao zs.length cap _ rfl (by omega) (unhide HR)).mono ?_
  rintro e w2 ⟨rfl, hs, hb⟩
  have hyb := (unhide HY).lt
  skip
  (try clear x0 x1 x2 x3 r0 r1 r2 y0 y0f y1 y1f y2 y2f y3 y3f)
  replace HB := hide (below_tr (unhide HB) hb)
  replace HR := hide ((unhide HR).bel hb)
  replace HP := hide ((unhide HP).bel hb)
  replace HX := hide ((unhide HX).bel hb)
  replace HW := hide ((unhide HW).bel hb)
  replace HY := hide ((unhide HY).bel hb)
  have HS := hide (hs)
  clear hb hs
  have x0 := (unhide HX).cell 0 rfl
  have x1 := (unhide HX).cell 1 rfl
  have x2 := (unhide HX).cell 2 rfl
  have x3 := (unhide HX).cell 3 rfl
  have r0 := (unhide HW).cell 0 rfl
  have r1 := (unhide HW).cell 1 rfl
  have r2 := (unhide HW).cell 2 rfl
  have y0 := (unhide HY).cell 0 rfl
  have y0f := (unhide HY).frozen 0 rfl
  have y1 := (unhide HY).cell 1 rfl
  have y1f := (unhide HY).frozen 1 rfl
  have y2 := (unhide HY).cell 2 rfl
  have y2f := (unhide HY).frozen 2 rfl
  have y3 := (unhide HY).cell 3 rfl
  have y3f := (unhide HY).frozen 3 rfl
  rcases e1 : decide (1 ≤ who ∧ who ≤ 5) with _ | _
  case false =>
    have hno := sb_1 (s := s) (l := l) (o := o) (zs := zs) (t := t) (a := a) (c := c) (d := d) (ps := ps) e1
    go_wp2_with fail
    refine (c34 who _).mono ?_
    rintro e w3 ⟨rfl, hww⟩
    have hww := hww.symm
    subst hww
    rw [e1]
    go_wp2_with fail
    have hg := sh_not (unhide HOK) hno
    refine (c36 s l o zs ao zs.length cap _ rfl (by omega) (unhide HZ) (unhide HR)).mono ?_
    rintro e w4 ⟨v, rfl, ho, hb⟩
    have h12 := (unhide HY).lt
    obtain ⟨ac, cc, rfl⟩ := live_form ho.2
    (try clear x0 x1 x2 x3 r0 r1 r2 y0 y0f y1 y1f y2 y2f y3 y3f)
    replace HB := hide (below_tr (unhide HB) hb)
    replace HR := hide ((unhide HR).bel hb)
    replace HP := hide ((unhide HP).bel hb)
    replace HX := hide ((unhide HX).bel hb)
    replace HW := hide ((unhide HW).bel hb)
    replace HY := hide ((unhide HY).bel hb)
    clear HS
    have HOA := hide (ho)
    clear hb ho
    have x0 := (unhide HX).cell 0 rfl
    have x1 := (unhide HX).cell 1 rfl
    have x2 := (unhide HX).cell 2 rfl
    have x3 := (unhide HX).cell 3 rfl
    have r0 := (unhide HW).cell 0 rfl
    have r1 := (unhide HW).cell 1 rfl
    have r2 := (unhide HW).cell 2 rfl
    have y0 := (unhide HY).cell 0 rfl
    have y0f := (unhide HY).frozen 0 rfl
    have y1 := (unhide HY).cell 1 rfl
    have y1f := (unhide HY).frozen 1 rfl
    have y2 := (unhide HY).cell 2 rfl
    have y2f := (unhide HY).frozen 2 rfl
    have y3 := (unhide HY).cell 3 rfl
    have y3f := (unhide HY).frozen 3 rfl
    go_wp2_with fail
    (try clear x0 x1 x2 x3 r0 r1 r2 y0 y0f y1 y1f y2 y2f y3 y3f)
    (try clear x0 x1 x2 x3 r0 r1 r2 y0 y0f y1 y1f y2 y2f y3 y3f)
    replace HX := hide ((unhide HX).oth (g' := w.heap.size + 1 + 1) (i := 0) (.int .i64 s) (by omega))
    replace HY := hide (box_put (unhide HY) 0 (.int .i64 s) (by simp))
    replace HOA := hide ((unhide HOA).kg (grown_cel _ (w.heap.size + 1 + 1) 0 (.int .i64 s)) (by omega))
    replace HB := hide (below_sc (p := ⟨w.heap.size + 1 + 1, 0, none⟩) (v := .int .i64 s) (unhide HB) (by dsimp only; omega))
    replace HX := hide ((unhide HX).oth (g' := w.heap.size + 1 + 1) (i := 1) (.int .i64 l) (by omega))
    replace HY := hide (box_put (unhide HY) 1 (.int .i64 l) (by simp))
    replace HOA := hide ((unhide HOA).kg (grown_cel _ (w.heap.size + 1 + 1) 1 (.int .i64 l)) (by omega))
    replace HB := hide (below_sc (p := ⟨w.heap.size + 1 + 1, 1, none⟩) (v := .int .i64 l) (unhide HB) (by dsimp only; omega))
    replace HX := hide ((unhide HX).oth (g' := w.heap.size + 1 + 1) (i := 2) (.int .i64 o) (by omega))
    replace HY := hide (box_put (unhide HY) 2 (.int .i64 o) (by simp))
    replace HOA := hide ((unhide HOA).kg (grown_cel _ (w.heap.size + 1 + 1) 2 (.int .i64 o)) (by omega))
    replace HB := hide (below_sc (p := ⟨w.heap.size + 1 + 1, 2, none⟩) (v := .int .i64 o) (unhide HB) (by dsimp only; omega))
    replace HX := hide ((unhide HX).oth (g' := w.heap.size + 1 + 1) (i := 3) (.slice ac zs.length cc) (by omega))
    replace HY := hide (box_put (unhide HY) 3 (.slice ac zs.length cc) (by simp))
    replace HOA := hide ((unhide HOA).kg (grown_cel _ (w.heap.size + 1 + 1) 3 (.slice ac zs.length cc)) (by omega))
    replace HB := hide (below_sc (p := ⟨w.heap.size + 1 + 1, 3, none⟩) (v := .slice ac zs.length cc) (unhide HB) (by dsimp only; omega))
    replace HY := hide (show Box _ (w.heap.size + 1 + 1) [.int .i64 s, .int .i64 l, .int .i64 o, .slice ac zs.length cc] from unhide HY)
    have x0 := (unhide HX).cell 0 rfl
    have x1 := (unhide HX).cell 1 rfl
    have x2 := (unhide HX).cell 2 rfl
    have x3 := (unhide HX).cell 3 rfl
    have r0 := (unhide HW).cell 0 rfl
    have r1 := (unhide HW).cell 1 rfl
    have r2 := (unhide HW).cell 2 rfl
    have y0 := (unhide HY).cell 0 rfl
    have y1 := (unhide HY).cell 1 rfl
    have y2 := (unhide HY).cell 2 rfl
    have y3 := (unhide HY).cell 3 rfl
    refine bodyPost_ret (v := .tuple #[gatV s l o (.slice ac zs.length cc), .bool false]) (results_ct Tryz.results6 rfl (load_gat (unhide HY))) rfl ?_
    rw [hg.1, hg.2.1, hg.2.2]
    exact ⟨_, rfl, (unhide HOA).mono (by omega), unhide HB⟩
  go_wp2_with fail
  by_cases e2 : a = who
  case neg =>
    have hno := sb_2 (s := s) (l := l) (o := o) (zs := zs) (t := t) (c := c) (d := d) (ps := ps) (decide_eq_false e2)
    have d1 : (a == who) = false := by rw [beq_eq_false_iff_ne]; exact e2
    have d2 : (a != who) = true := by simp [bne, d1]
    refine (c34 who _).mono ?_
    rintro e w3 ⟨rfl, hww⟩
    have hww := hww.symm
    subst hww
    rw [e1]
    go_wp2_with fail
    have hg := sh_not (unhide HOK) hno
    refine (c36 s l o zs ao zs.length cap _ rfl (by omega) (unhide HZ) (unhide HR)).mono ?_
    rintro e w4 ⟨v, rfl, ho, hb⟩
    have h12 := (unhide HY).lt
    obtain ⟨ac, cc, rfl⟩ := live_form ho.2
    (try clear x0 x1 x2 x3 r0 r1 r2 y0 y0f y1 y1f y2 y2f y3 y3f)
    replace HB := hide (below_tr (unhide HB) hb)
    replace HR := hide ((unhide HR).bel hb)
    replace HP := hide ((unhide HP).bel hb)
    replace HX := hide ((unhide HX).bel hb)
    replace HW := hide ((unhide HW).bel hb)
    replace HY := hide ((unhide HY).bel hb)
    clear HS
    have HOA := hide (ho)
    clear hb ho
    have x0 := (unhide HX).cell 0 rfl
    have x1 := (unhide HX).cell 1 rfl
    have x2 := (unhide HX).cell 2 rfl
    have x3 := (unhide HX).cell 3 rfl
    have r0 := (unhide HW).cell 0 rfl
    have r1 := (unhide HW).cell 1 rfl
    have r2 := (unhide HW).cell 2 rfl
    have y0 := (unhide HY).cell 0 rfl
    have y0f := (unhide HY).frozen 0 rfl
    have y1 := (unhide HY).cell 1 rfl
    have y1f := (unhide HY).frozen 1 rfl
    have y2 := (unhide HY).cell 2 rfl
    have y2f := (unhide HY).frozen 2 rfl
    have y3 := (unhide HY).cell 3 rfl
    have y3f := (unhide HY).frozen 3 rfl
    go_wp2_with fail
    (try clear x0 x1 x2 x3 r0 r1 r2 y0 y0f y1 y1f y2 y2f y3 y3f)
    (try clear x0 x1 x2 x3 r0 r1 r2 y0 y0f y1 y1f y2 y2f y3 y3f)
    replace HX := hide ((unhide HX).oth (g' := w.heap.size + 1 + 1) (i := 0) (.int .i64 s) (by omega))
    replace HY := hide (box_put (unhide HY) 0 (.int .i64 s) (by simp))
    replace HOA := hide ((unhide HOA).kg (grown_cel _ (w.heap.size + 1 + 1) 0 (.int .i64 s)) (by omega))
    replace HB := hide (below_sc (p := ⟨w.heap.size + 1 + 1, 0, none⟩) (v := .int .i64 s) (unhide HB) (by dsimp only; omega))
    replace HX := hide ((unhide HX).oth (g' := w.heap.size + 1 + 1) (i := 1) (.int .i64 l) (by omega))
    replace HY := hide (box_put (unhide HY) 1 (.int .i64 l) (by simp))
    replace HOA := hide ((unhide HOA).kg (grown_cel _ (w.heap.size + 1 + 1) 1 (.int .i64 l)) (by omega))
    replace HB := hide (below_sc (p := ⟨w.heap.size + 1 + 1, 1, none⟩) (v := .int .i64 l) (unhide HB) (by dsimp only; omega))
    replace HX := hide ((unhide HX).oth (g' := w.heap.size + 1 + 1) (i := 2) (.int .i64 o) (by omega))
    replace HY := hide (box_put (unhide HY) 2 (.int .i64 o) (by simp))
    replace HOA := hide ((unhide HOA).kg (grown_cel _ (w.heap.size + 1 + 1) 2 (.int .i64 o)) (by omega))
    replace HB := hide (below_sc (p := ⟨w.heap.size + 1 + 1, 2, none⟩) (v := .int .i64 o) (unhide HB) (by dsimp only; omega))
    replace HX := hide ((unhide HX).oth (g' := w.heap.size + 1 + 1) (i := 3) (.slice ac zs.length cc) (by omega))
    replace HY := hide (box_put (unhide HY) 3 (.slice ac zs.length cc) (by simp))
    replace HOA := hide ((unhide HOA).kg (grown_cel _ (w.heap.size + 1 + 1) 3 (.slice ac zs.length cc)) (by omega))
    replace HB := hide (below_sc (p := ⟨w.heap.size + 1 + 1, 3, none⟩) (v := .slice ac zs.length cc) (unhide HB) (by dsimp only; omega))
    replace HY := hide (show Box _ (w.heap.size + 1 + 1) [.int .i64 s, .int .i64 l, .int .i64 o, .slice ac zs.length cc] from unhide HY)
    have x0 := (unhide HX).cell 0 rfl
    have x1 := (unhide HX).cell 1 rfl
    have x2 := (unhide HX).cell 2 rfl
    have x3 := (unhide HX).cell 3 rfl
    have r0 := (unhide HW).cell 0 rfl
    have r1 := (unhide HW).cell 1 rfl
    have r2 := (unhide HW).cell 2 rfl
    have y0 := (unhide HY).cell 0 rfl
    have y1 := (unhide HY).cell 1 rfl
    have y2 := (unhide HY).cell 2 rfl
    have y3 := (unhide HY).cell 3 rfl
    refine bodyPost_ret (v := .tuple #[gatV s l o (.slice ac zs.length cc), .bool false]) (results_ct Tryz.results6 rfl (load_gat (unhide HY))) rfl ?_
    rw [hg.1, hg.2.1, hg.2.2]
    exact ⟨_, rfl, (unhide HOA).mono (by omega), unhide HB⟩
  subst e2
  cases d
  case true =>
    have hno := sb_3 (s := s) (l := l) (o := o) (zs := zs) (t := t) (who := a) (a := a) (c := c) (d := true) (ps := ps) rfl
    refine (c34 a _).mono ?_
    rintro e w3 ⟨rfl, hww⟩
    have hww := hww.symm
    subst hww
    rw [e1]
    go_wp2_with fail
    have hg := sh_not (unhide HOK) hno
    refine (c36 s l o zs ao zs.length cap _ rfl (by omega) (unhide HZ) (unhide HR)).mono ?_
    rintro e w4 ⟨v, rfl, ho, hb⟩
    have h12 := (unhide HY).lt
    obtain ⟨ac, cc, rfl⟩ := live_form ho.2
    (try clear x0 x1 x2 x3 r0 r1 r2 y0 y0f y1 y1f y2 y2f y3 y3f)
    replace HB := hide (below_tr (unhide HB) hb)
    replace HR := hide ((unhide HR).bel hb)
    replace HP := hide ((unhide HP).bel hb)
    replace HX := hide ((unhide HX).bel hb)
    replace HW := hide ((unhide HW).bel hb)
    replace HY := hide ((unhide HY).bel hb)
    clear HS
    have HOA := hide (ho)
    clear hb ho
    have x0 := (unhide HX).cell 0 rfl
    have x1 := (unhide HX).cell 1 rfl
    have x2 := (unhide HX).cell 2 rfl
    have x3 := (unhide HX).cell 3 rfl
    have r0 := (unhide HW).cell 0 rfl
    have r1 := (unhide HW).cell 1 rfl
    have r2 := (unhide HW).cell 2 rfl
    have y0 := (unhide HY).cell 0 rfl
    have y0f := (unhide HY).frozen 0 rfl
    have y1 := (unhide HY).cell 1 rfl
    have y1f := (unhide HY).frozen 1 rfl
    have y2 := (unhide HY).cell 2 rfl
    have y2f := (unhide HY).frozen 2 rfl
    have y3 := (unhide HY).cell 3 rfl
    have y3f := (unhide HY).frozen 3 rfl
    go_wp2_with fail
    (try clear x0 x1 x2 x3 r0 r1 r2 y0 y0f y1 y1f y2 y2f y3 y3f)
    (try clear x0 x1 x2 x3 r0 r1 r2 y0 y0f y1 y1f y2 y2f y3 y3f)
    replace HX := hide ((unhide HX).oth (g' := w.heap.size + 1 + 1) (i := 0) (.int .i64 s) (by omega))
    replace HY := hide (box_put (unhide HY) 0 (.int .i64 s) (by simp))
    replace HOA := hide ((unhide HOA).kg (grown_cel _ (w.heap.size + 1 + 1) 0 (.int .i64 s)) (by omega))
    replace HB := hide (below_sc (p := ⟨w.heap.size + 1 + 1, 0, none⟩) (v := .int .i64 s) (unhide HB) (by dsimp only; omega))
    replace HX := hide ((unhide HX).oth (g' := w.heap.size + 1 + 1) (i := 1) (.int .i64 l) (by omega))
    replace HY := hide (box_put (unhide HY) 1 (.int .i64 l) (by simp))
    replace HOA := hide ((unhide HOA).kg (grown_cel _ (w.heap.size + 1 + 1) 1 (.int .i64 l)) (by omega))
    replace HB := hide (below_sc (p := ⟨w.heap.size + 1 + 1, 1, none⟩) (v := .int .i64 l) (unhide HB) (by dsimp only; omega))
    replace HX := hide ((unhide HX).oth (g' := w.heap.size + 1 + 1) (i := 2) (.int .i64 o) (by omega))
    replace HY := hide (box_put (unhide HY) 2 (.int .i64 o) (by simp))
    replace HOA := hide ((unhide HOA).kg (grown_cel _ (w.heap.size + 1 + 1) 2 (.int .i64 o)) (by omega))
    replace HB := hide (below_sc (p := ⟨w.heap.size + 1 + 1, 2, none⟩) (v := .int .i64 o) (unhide HB) (by dsimp only; omega))
    replace HX := hide ((unhide HX).oth (g' := w.heap.size + 1 + 1) (i := 3) (.slice ac zs.length cc) (by omega))
    replace HY := hide (box_put (unhide HY) 3 (.slice ac zs.length cc) (by simp))
    replace HOA := hide ((unhide HOA).kg (grown_cel _ (w.heap.size + 1 + 1) 3 (.slice ac zs.length cc)) (by omega))
    replace HB := hide (below_sc (p := ⟨w.heap.size + 1 + 1, 3, none⟩) (v := .slice ac zs.length cc) (unhide HB) (by dsimp only; omega))
    replace HY := hide (show Box _ (w.heap.size + 1 + 1) [.int .i64 s, .int .i64 l, .int .i64 o, .slice ac zs.length cc] from unhide HY)
    have x0 := (unhide HX).cell 0 rfl
    have x1 := (unhide HX).cell 1 rfl
    have x2 := (unhide HX).cell 2 rfl
    have x3 := (unhide HX).cell 3 rfl
    have r0 := (unhide HW).cell 0 rfl
    have r1 := (unhide HW).cell 1 rfl
    have r2 := (unhide HW).cell 2 rfl
    have y0 := (unhide HY).cell 0 rfl
    have y1 := (unhide HY).cell 1 rfl
    have y2 := (unhide HY).cell 2 rfl
    have y3 := (unhide HY).cell 3 rfl
    refine bodyPost_ret (v := .tuple #[gatV s l o (.slice ac zs.length cc), .bool false]) (results_ct Tryz.results6 rfl (load_gat (unhide HY))) rfl ?_
    rw [hg.1, hg.2.1, hg.2.2]
    exact ⟨_, rfl, (unhide HOA).mono (by omega), unhide HB⟩
  refine (c34 a _).mono ?_
  rintro e w3 ⟨rfl, hww⟩
  have hww := hww.symm
  subst hww
  rw [e1]
  go_wp2_with fail
  rcases e4 : hasB zs t with _ | _
  case true =>
    have hno := sb_4 (s := s) (l := l) (o := o) (who := a) (a := a) (c := c) (d := false) (ps := ps) e4
    refine (c35 w1.heap.size zs t _ (unhide HS) ht).mono ?_
    rintro e w4 ⟨rfl, hb⟩
    rw [e4]
    (try clear x0 x1 x2 x3 r0 r1 r2 y0 y0f y1 y1f y2 y2f y3 y3f)
    replace HB := hide (below_tr (unhide HB) hb)
    replace HR := hide ((unhide HR).bel hb)
    replace HP := hide ((unhide HP).bel hb)
    replace HX := hide ((unhide HX).bel hb)
    replace HW := hide ((unhide HW).bel hb)
    replace HY := hide ((unhide HY).bel hb)
    replace HS := hide ((unhide HS).bel hb)
    clear hb
    have x0 := (unhide HX).cell 0 rfl
    have x1 := (unhide HX).cell 1 rfl
    have x2 := (unhide HX).cell 2 rfl
    have x3 := (unhide HX).cell 3 rfl
    have r0 := (unhide HW).cell 0 rfl
    have r1 := (unhide HW).cell 1 rfl
    have r2 := (unhide HW).cell 2 rfl
    have y0 := (unhide HY).cell 0 rfl
    have y0f := (unhide HY).frozen 0 rfl
    have y1 := (unhide HY).cell 1 rfl
    have y1f := (unhide HY).frozen 1 rfl
    have y2 := (unhide HY).cell 2 rfl
    have y2f := (unhide HY).frozen 2 rfl
    have y3 := (unhide HY).cell 3 rfl
    have y3f := (unhide HY).frozen 3 rfl
    go_wp2_with fail
    have hg := sh_not (unhide HOK) hno
    refine (c36 s l o zs ao zs.length cap _ rfl (by omega) (unhide HZ) (unhide HR)).mono ?_
    rintro e w5 ⟨v, rfl, ho, hb⟩
    have h12 := (unhide HY).lt
    obtain ⟨ac, cc, rfl⟩ := live_form ho.2
    (try clear x0 x1 x2 x3 r0 r1 r2 y0 y0f y1 y1f y2 y2f y3 y3f)
    replace HB := hide (below_tr (unhide HB) hb)
    replace HR := hide ((unhide HR).bel hb)
    replace HP := hide ((unhide HP).bel hb)
    replace HX := hide ((unhide HX).bel hb)
    replace HW := hide ((unhide HW).bel hb)
    replace HY := hide ((unhide HY).bel hb)
    clear HS
    have HOA := hide (ho)
    clear hb ho
    have x0 := (unhide HX).cell 0 rfl
    have x1 := (unhide HX).cell 1 rfl
    have x2 := (unhide HX).cell 2 rfl
    have x3 := (unhide HX).cell 3 rfl
    have r0 := (unhide HW).cell 0 rfl
    have r1 := (unhide HW).cell 1 rfl
    have r2 := (unhide HW).cell 2 rfl
    have y0 := (unhide HY).cell 0 rfl
    have y0f := (unhide HY).frozen 0 rfl
    have y1 := (unhide HY).cell 1 rfl
    have y1f := (unhide HY).frozen 1 rfl
    have y2 := (unhide HY).cell 2 rfl
    have y2f := (unhide HY).frozen 2 rfl
    have y3 := (unhide HY).cell 3 rfl
    have y3f := (unhide HY).frozen 3 rfl
    go_wp2_with fail
    (try clear x0 x1 x2 x3 r0 r1 r2 y0 y0f y1 y1f y2 y2f y3 y3f)
    (try clear x0 x1 x2 x3 r0 r1 r2 y0 y0f y1 y1f y2 y2f y3 y3f)
    replace HX := hide ((unhide HX).oth (g' := w.heap.size + 1 + 1) (i := 0) (.int .i64 s) (by omega))
    replace HY := hide (box_put (unhide HY) 0 (.int .i64 s) (by simp))
    replace HOA := hide ((unhide HOA).kg (grown_cel _ (w.heap.size + 1 + 1) 0 (.int .i64 s)) (by omega))
    replace HB := hide (below_sc (p := ⟨w.heap.size + 1 + 1, 0, none⟩) (v := .int .i64 s) (unhide HB) (by dsimp only; omega))
    replace HX := hide ((unhide HX).oth (g' := w.heap.size + 1 + 1) (i := 1) (.int .i64 l) (by omega))
    replace HY := hide (box_put (unhide HY) 1 (.int .i64 l) (by simp))
    replace HOA := hide ((unhide HOA).kg (grown_cel _ (w.heap.size + 1 + 1) 1 (.int .i64 l)) (by omega))
    replace HB := hide (below_sc (p := ⟨w.heap.size + 1 + 1, 1, none⟩) (v := .int .i64 l) (unhide HB) (by dsimp only; omega))
    replace HX := hide ((unhide HX).oth (g' := w.heap.size + 1 + 1) (i := 2) (.int .i64 o) (by omega))
    replace HY := hide (box_put (unhide HY) 2 (.int .i64 o) (by simp))
    replace HOA := hide ((unhide HOA).kg (grown_cel _ (w.heap.size + 1 + 1) 2 (.int .i64 o)) (by omega))
    replace HB := hide (below_sc (p := ⟨w.heap.size + 1 + 1, 2, none⟩) (v := .int .i64 o) (unhide HB) (by dsimp only; omega))
    replace HX := hide ((unhide HX).oth (g' := w.heap.size + 1 + 1) (i := 3) (.slice ac zs.length cc) (by omega))
    replace HY := hide (box_put (unhide HY) 3 (.slice ac zs.length cc) (by simp))
    replace HOA := hide ((unhide HOA).kg (grown_cel _ (w.heap.size + 1 + 1) 3 (.slice ac zs.length cc)) (by omega))
    replace HB := hide (below_sc (p := ⟨w.heap.size + 1 + 1, 3, none⟩) (v := .slice ac zs.length cc) (unhide HB) (by dsimp only; omega))
    replace HY := hide (show Box _ (w.heap.size + 1 + 1) [.int .i64 s, .int .i64 l, .int .i64 o, .slice ac zs.length cc] from unhide HY)
    have x0 := (unhide HX).cell 0 rfl
    have x1 := (unhide HX).cell 1 rfl
    have x2 := (unhide HX).cell 2 rfl
    have x3 := (unhide HX).cell 3 rfl
    have r0 := (unhide HW).cell 0 rfl
    have r1 := (unhide HW).cell 1 rfl
    have r2 := (unhide HW).cell 2 rfl
    have y0 := (unhide HY).cell 0 rfl
    have y1 := (unhide HY).cell 1 rfl
    have y2 := (unhide HY).cell 2 rfl
    have y3 := (unhide HY).cell 3 rfl
    refine bodyPost_ret (v := .tuple #[gatV s l o (.slice ac zs.length cc), .bool false]) (results_ct Tryz.results6 rfl (load_gat (unhide HY))) rfl ?_
    rw [hg.1, hg.2.1, hg.2.2]
    exact ⟨_, rfl, (unhide HOA).mono (by omega), unhide HB⟩
  refine (c35 w1.heap.size zs t _ (unhide HS) ht).mono ?_
  rintro e w4 ⟨rfl, hb⟩
  rw [e4]
  (try clear x0 x1 x2 x3 r0 r1 r2 y0 y0f y1 y1f y2 y2f y3 y3f)
  replace HB := hide (below_tr (unhide HB) hb)
  replace HR := hide ((unhide HR).bel hb)
  replace HP := hide ((unhide HP).bel hb)
  replace HX := hide ((unhide HX).bel hb)
  replace HW := hide ((unhide HW).bel hb)
  replace HY := hide ((unhide HY).bel hb)
  replace HS := hide ((unhide HS).bel hb)
  clear hb
  have x0 := (unhide HX).cell 0 rfl
  have x1 := (unhide HX).cell 1 rfl
  have x2 := (unhide HX).cell 2 rfl
  have x3 := (unhide HX).cell 3 rfl
  have r0 := (unhide HW).cell 0 rfl
  have r1 := (unhide HW).cell 1 rfl
  have r2 := (unhide HW).cell 2 rfl
  have y0 := (unhide HY).cell 0 rfl
  have y0f := (unhide HY).frozen 0 rfl
  have y1 := (unhide HY).cell 1 rfl
  have y1f := (unhide HY).frozen 1 rfl
  have y2 := (unhide HY).cell 2 rfl
  have y2f := (unhide HY).frozen 2 rfl
  have y3 := (unhide HY).cell 3 rfl
  have y3f := (unhide HY).frozen 3 rfl
  go_wp2_with fail
  rcases e5 : Tm.ownCheck o t (a, c, false) ps with _ | _
  case false =>
    have hno := sb_5 (s := s) (l := l) (zs := zs) (who := a) e5
    refine (c12 ps o t a c false bo m cap' _ (unhide HN2) hc2 hm2 (unhide HFT) (unhide HP)).mono ?_
    rintro e w5 ⟨rfl, hb⟩
    rw [e5]
    (try clear x0 x1 x2 x3 r0 r1 r2 y0 y0f y1 y1f y2 y2f y3 y3f)
    replace HB := hide (below_tr (unhide HB) hb)
    replace HR := hide ((unhide HR).bel hb)
    replace HP := hide ((unhide HP).bel hb)
    replace HX := hide ((unhide HX).bel hb)
    replace HW := hide ((unhide HW).bel hb)
    replace HY := hide ((unhide HY).bel hb)
    replace HS := hide ((unhide HS).bel hb)
    clear hb
    have x0 := (unhide HX).cell 0 rfl
    have x1 := (unhide HX).cell 1 rfl
    have x2 := (unhide HX).cell 2 rfl
    have x3 := (unhide HX).cell 3 rfl
    have r0 := (unhide HW).cell 0 rfl
    have r1 := (unhide HW).cell 1 rfl
    have r2 := (unhide HW).cell 2 rfl
    have y0 := (unhide HY).cell 0 rfl
    have y0f := (unhide HY).frozen 0 rfl
    have y1 := (unhide HY).cell 1 rfl
    have y1f := (unhide HY).frozen 1 rfl
    have y2 := (unhide HY).cell 2 rfl
    have y2f := (unhide HY).frozen 2 rfl
    have y3 := (unhide HY).cell 3 rfl
    have y3f := (unhide HY).frozen 3 rfl
    go_wp2_with fail
    have hg := sh_not (unhide HOK) hno
    refine (c36 s l o zs ao zs.length cap _ rfl (by omega) (unhide HZ) (unhide HR)).mono ?_
    rintro e w6 ⟨v, rfl, ho, hb⟩
    have h12 := (unhide HY).lt
    obtain ⟨ac, cc, rfl⟩ := live_form ho.2
    (try clear x0 x1 x2 x3 r0 r1 r2 y0 y0f y1 y1f y2 y2f y3 y3f)
    replace HB := hide (below_tr (unhide HB) hb)
    replace HR := hide ((unhide HR).bel hb)
    replace HP := hide ((unhide HP).bel hb)
    replace HX := hide ((unhide HX).bel hb)
    replace HW := hide ((unhide HW).bel hb)
    replace HY := hide ((unhide HY).bel hb)
    clear HS
    have HOA := hide (ho)
    clear hb ho
    have x0 := (unhide HX).cell 0 rfl
    have x1 := (unhide HX).cell 1 rfl
    have x2 := (unhide HX).cell 2 rfl
    have x3 := (unhide HX).cell 3 rfl
    have r0 := (unhide HW).cell 0 rfl
    have r1 := (unhide HW).cell 1 rfl
    have r2 := (unhide HW).cell 2 rfl
    have y0 := (unhide HY).cell 0 rfl
    have y0f := (unhide HY).frozen 0 rfl
    have y1 := (unhide HY).cell 1 rfl
    have y1f := (unhide HY).frozen 1 rfl
    have y2 := (unhide HY).cell 2 rfl
    have y2f := (unhide HY).frozen 2 rfl
    have y3 := (unhide HY).cell 3 rfl
    have y3f := (unhide HY).frozen 3 rfl
    go_wp2_with fail
    (try clear x0 x1 x2 x3 r0 r1 r2 y0 y0f y1 y1f y2 y2f y3 y3f)
    (try clear x0 x1 x2 x3 r0 r1 r2 y0 y0f y1 y1f y2 y2f y3 y3f)
    replace HX := hide ((unhide HX).oth (g' := w.heap.size + 1 + 1) (i := 0) (.int .i64 s) (by omega))
    replace HY := hide (box_put (unhide HY) 0 (.int .i64 s) (by simp))
    replace HOA := hide ((unhide HOA).kg (grown_cel _ (w.heap.size + 1 + 1) 0 (.int .i64 s)) (by omega))
    replace HB := hide (below_sc (p := ⟨w.heap.size + 1 + 1, 0, none⟩) (v := .int .i64 s) (unhide HB) (by dsimp only; omega))
    replace HX := hide ((unhide HX).oth (g' := w.heap.size + 1 + 1) (i := 1) (.int .i64 l) (by omega))
    replace HY := hide (box_put (unhide HY) 1 (.int .i64 l) (by simp))
    replace HOA := hide ((unhide HOA).kg (grown_cel _ (w.heap.size + 1 + 1) 1 (.int .i64 l)) (by omega))
    replace HB := hide (below_sc (p := ⟨w.heap.size + 1 + 1, 1, none⟩) (v := .int .i64 l) (unhide HB) (by dsimp only; omega))
    replace HX := hide ((unhide HX).oth (g' := w.heap.size + 1 + 1) (i := 2) (.int .i64 o) (by omega))
    replace HY := hide (box_put (unhide HY) 2 (.int .i64 o) (by simp))
    replace HOA := hide ((unhide HOA).kg (grown_cel _ (w.heap.size + 1 + 1) 2 (.int .i64 o)) (by omega))
    replace HB := hide (below_sc (p := ⟨w.heap.size + 1 + 1, 2, none⟩) (v := .int .i64 o) (unhide HB) (by dsimp only; omega))
    replace HX := hide ((unhide HX).oth (g' := w.heap.size + 1 + 1) (i := 3) (.slice ac zs.length cc) (by omega))
    replace HY := hide (box_put (unhide HY) 3 (.slice ac zs.length cc) (by simp))
    replace HOA := hide ((unhide HOA).kg (grown_cel _ (w.heap.size + 1 + 1) 3 (.slice ac zs.length cc)) (by omega))
    replace HB := hide (below_sc (p := ⟨w.heap.size + 1 + 1, 3, none⟩) (v := .slice ac zs.length cc) (unhide HB) (by dsimp only; omega))
    replace HY := hide (show Box _ (w.heap.size + 1 + 1) [.int .i64 s, .int .i64 l, .int .i64 o, .slice ac zs.length cc] from unhide HY)
    have x0 := (unhide HX).cell 0 rfl
    have x1 := (unhide HX).cell 1 rfl
    have x2 := (unhide HX).cell 2 rfl
    have x3 := (unhide HX).cell 3 rfl
    have r0 := (unhide HW).cell 0 rfl
    have r1 := (unhide HW).cell 1 rfl
    have r2 := (unhide HW).cell 2 rfl
    have y0 := (unhide HY).cell 0 rfl
    have y1 := (unhide HY).cell 1 rfl
    have y2 := (unhide HY).cell 2 rfl
    have y3 := (unhide HY).cell 3 rfl
    refine bodyPost_ret (v := .tuple #[gatV s l o (.slice ac zs.length cc), .bool false]) (results_ct Tryz.results6 rfl (load_gat (unhide HY))) rfl ?_
    rw [hg.1, hg.2.1, hg.2.2]
    exact ⟨_, rfl, (unhide HOA).mono (by omega), unhide HB⟩
  refine (c12 ps o t a c false bo m cap' _ (unhide HN2) hc2 hm2 (unhide HFT) (unhide HP)).mono ?_
  rintro e w5 ⟨rfl, hb⟩
  rw [e5]
  (try clear x0 x1 x2 x3 r0 r1 r2 y0 y0f y1 y1f y2 y2f y3 y3f)
  replace HB := hide (below_tr (unhide HB) hb)
  replace HR := hide ((unhide HR).bel hb)
  replace HP := hide ((unhide HP).bel hb)
  replace HX := hide ((unhide HX).bel hb)
  replace HW := hide ((unhide HW).bel hb)
  replace HY := hide ((unhide HY).bel hb)
  replace HS := hide ((unhide HS).bel hb)
  clear hb
  have x0 := (unhide HX).cell 0 rfl
  have x1 := (unhide HX).cell 1 rfl
  have x2 := (unhide HX).cell 2 rfl
  have x3 := (unhide HX).cell 3 rfl
  have r0 := (unhide HW).cell 0 rfl
  have r1 := (unhide HW).cell 1 rfl
  have r2 := (unhide HW).cell 2 rfl
  have y0 := (unhide HY).cell 0 rfl
  have y0f := (unhide HY).frozen 0 rfl
  have y1 := (unhide HY).cell 1 rfl
  have y1f := (unhide HY).frozen 1 rfl
  have y2 := (unhide HY).cell 2 rfl
  have y2f := (unhide HY).frozen 2 rfl
  have y3 := (unhide HY).cell 3 rfl
  have y3f := (unhide HY).frozen 3 rfl
  go_wp2_with fail
  have hg := sh_go (unhide HOK) (sb_6 (unhide HOK) e1 (decide_eq_true rfl) rfl e4 e5)
  obtain ⟨hgr, hgb⟩ := gat_rising (show gatFrom (-1) zs = true from by have h := unhide HOK; unfold gatOk at h; rw [Bool.and_eq_true] at h; exact h.2)
  have HGR := hide hgr
  clear hgr hgb e5
  have hbl := (unhide HS).lt
  (try clear x0 x1 x2 x3 r0 r1 r2 y0 y0f y1 y1f y2 y2f y3 y3f)
  replace HB := hide (below_al (o := .cells #[.int .i64 t] 3) (unhide HB))
  replace HR := hide ((unhide HR).bel (below_a (.cells #[.int .i64 t] 3)))
  replace HP := hide ((unhide HP).bel (below_a (.cells #[.int .i64 t] 3)))
  replace HX := hide ((unhide HX).bel (below_a (.cells #[.int .i64 t] 3)))
  replace HW := hide ((unhide HW).bel (below_a (.cells #[.int .i64 t] 3)))
  replace HY := hide ((unhide HY).bel (below_a (.cells #[.int .i64 t] 3)))
  replace HS := hide ((unhide HS).bel (below_a (.cells #[.int .i64 t] 3)))
  have hsz := hbl
  have hrow : Row (w5.alloc (.cells #[.int .i64 t] 3)) (some ⟨w5.heap.size, 0, none⟩) [t] := ⟨fun z hz => by rw [List.mem_singleton.1 hz]; exact ht, fun _ => ⟨_, _, rfl, fun j hj => by obtain rfl : j = 0 := (by simpa using hj); rw [World.cell?_alloc_new]; rfl⟩⟩
  refine (c37 w1.heap.size zs [t] (some ⟨w5.heap.size, 0, none⟩) 1 1 _ (unhide HS) rfl (by omega) (by omega) hrow (fun _ x hx => by cases hx; exact Nat.ne_of_gt hsz)).mono ?_
  rintro e w6 ⟨rfl, hs, hg2⟩
  clear hrow HR HP
  have HS2 := hide hs
  replace HB := hide (below_gr (unhide HB) hg2 (by omega))
  replace HX := hide ((unhide HX).kg hg2 (by omega))
  replace HW := hide ((unhide HW).kg hg2 (by omega))
  replace HY := hide ((unhide HY).kg hg2 (by omega))
  clear hs hg2 HS
  have x0 := (unhide HX).cell 0 rfl
  have x1 := (unhide HX).cell 1 rfl
  have x2 := (unhide HX).cell 2 rfl
  have x3 := (unhide HX).cell 3 rfl
  have r0 := (unhide HW).cell 0 rfl
  have r1 := (unhide HW).cell 1 rfl
  have r2 := (unhide HW).cell 2 rfl
  have y0 := (unhide HY).cell 0 rfl
  have y0f := (unhide HY).frozen 0 rfl
  have y1 := (unhide HY).cell 1 rfl
  have y1f := (unhide HY).frozen 1 rfl
  have y2 := (unhide HY).cell 2 rfl
  have y2f := (unhide HY).frozen 2 rfl
  have y3 := (unhide HY).cell 3 rfl
  have y3f := (unhide HY).frozen 3 rfl
  go_wp2_with fail
  (try clear x0 x1 x2 x3 r0 r1 r2 y0 y0f y1 y1f y2 y2f y3 y3f)
  refine wp_region_W (fun w' => Box w' w.heap.size [.int .i64 s, .int .i64 l, .int .i64 o, .slice ao zs.length cap]) (by kernel_rfl) ((unhide HX).bel (below_drew w6)) (fun hHeld => ?_)
  refine tkW 0 (some 54) (v := ?_) ?_ ?_
  rotate_left
  · intro w hSw
    first | (go_simp; done) | (go_simp; with_reducible rfl) | with_reducible rfl | rfl
  try simp only [Act.put, List.setIfInBounds_toArray, List.set_cons_zero, List.set_cons_succ]
  refine tkW 1 (some 55) (v := ?_) ?_ ?_
  rotate_left
  · intro w hSw
    have x0 := hSw.cell 0 rfl; have x1 := hSw.cell 1 rfl; have x2 := hSw.cell 2 rfl; have x3 := hSw.cell 3 rfl
    first | (go_simp; done) | (go_simp; with_reducible rfl) | with_reducible rfl | rfl
  try simp only [Act.put, List.setIfInBounds_toArray, List.set_cons_zero, List.set_cons_succ]
  refine tkW 2 (some 56) (v := ?_) ?_ ?_
  rotate_left
  · intro w hSw
    first | (go_simp; done) | (go_simp; with_reducible rfl) | with_reducible rfl | rfl
  try simp only [Act.put, List.setIfInBounds_toArray, List.set_cons_zero, List.set_cons_succ]
  have hb := below_drew w6
  replace HB := hide (below_tr (unhide HB) hb)
  replace HX := hide ((unhide HX).bel hb)
  replace HW := hide ((unhide HW).bel hb)
  replace HY := hide ((unhide HY).bel hb)
  replace HS2 := hide ((unhide HS2).bel hb)
  clear hb
  generalize w6.drew = V0 at *
  refine oneW 3 (o := { dst := some 57, op := _, type := _, pos := _, after := _, guard := _ }) (fun K hK => ?_)
  go_simp
  go_at_call 38
  refine (c38 w1.heap.size (zs ++ [t]) V0 (unhide HS2) (by rw [List.length_append, List.length_singleton]; omega)).mono ?_
  rintro e V1 ⟨v, rfl, ho, hb⟩
  rw [rise_put (unhide HGR) e4] at ho
  obtain ⟨ac, cc, rfl⟩ := live_form ho.2
  try go_wp2_with fail
  refine hK.out _ _ ((unhide HX).bel hb) (fun hS1 => ?_)
  clear hK K
  try simp only [Act.put, List.setIfInBounds_toArray, List.set_cons_zero, List.set_cons_succ]
  refine tkW 4 (some 58) (v := ?_) ?_ ?_
  rotate_left
  · intro w hSw
    first | (go_simp; done) | (go_simp; with_reducible rfl) | with_reducible rfl | rfl
  try simp only [Act.put, List.setIfInBounds_toArray, List.set_cons_zero, List.set_cons_succ]
  have hv0 : w.heap.size ≤ V0.heap.size := (unhide HB).size
  have hv1 := hb.size
  have hy0 : w.heap.size + 1 + 1 < V0.heap.size := (unhide HY).lt
  clear HS2
  replace HB := hide (below_tr (unhide HB) hb)
  replace HX := hide ((unhide HX).bel hb)
  replace HW := hide ((unhide HW).bel hb)
  replace HY := hide ((unhide HY).bel hb)
  have HOA := hide ho
  clear hb ho hHeld
  have y0 := (unhide HY).cell 0 rfl
  have y0f := (unhide HY).frozen 0 rfl
  have y1 := (unhide HY).cell 1 rfl
  have y1f := (unhide HY).frozen 1 rfl
  have y2 := (unhide HY).cell 2 rfl
  have y2f := (unhide HY).frozen 2 rfl
  have y3 := (unhide HY).cell 3 rfl
  have y3f := (unhide HY).frozen 3 rfl
  refine oneW 5 (o := { dst := none, op := _, type := _, pos := _, after := _, guard := _ }) (fun K hK => ?_)
  go_simp
  (try clear y0 y0f y1 y1f y2 y2f y3 y3f)
  (try clear y0 y0f y1 y1f y2 y2f y3 y3f)
  replace HX := hide ((unhide HX).oth (g' := w.heap.size + 1 + 1) (i := 0) (.int .i64 s) (by omega))
  replace HW := hide ((unhide HW).oth (g' := w.heap.size + 1 + 1) (i := 0) (.int .i64 s) (by omega))
  replace HY := hide (box_put (unhide HY) 0 (.int .i64 s) (by simp))
  replace HOA := hide ((unhide HOA).kg (grown_cel _ (w.heap.size + 1 + 1) 0 (.int .i64 s)) (by omega))
  replace HB := hide (below_sc (p := ⟨w.heap.size + 1 + 1, 0, none⟩) (v := .int .i64 s) (unhide HB) (by dsimp only; omega))
  replace HX := hide ((unhide HX).oth (g' := w.heap.size + 1 + 1) (i := 1) (.int .i64 l) (by omega))
  replace HW := hide ((unhide HW).oth (g' := w.heap.size + 1 + 1) (i := 1) (.int .i64 l) (by omega))
  replace HY := hide (box_put (unhide HY) 1 (.int .i64 l) (by simp))
  replace HOA := hide ((unhide HOA).kg (grown_cel _ (w.heap.size + 1 + 1) 1 (.int .i64 l)) (by omega))
  replace HB := hide (below_sc (p := ⟨w.heap.size + 1 + 1, 1, none⟩) (v := .int .i64 l) (unhide HB) (by dsimp only; omega))
  replace HX := hide ((unhide HX).oth (g' := w.heap.size + 1 + 1) (i := 2) (.int .i64 o) (by omega))
  replace HW := hide ((unhide HW).oth (g' := w.heap.size + 1 + 1) (i := 2) (.int .i64 o) (by omega))
  replace HY := hide (box_put (unhide HY) 2 (.int .i64 o) (by simp))
  replace HOA := hide ((unhide HOA).kg (grown_cel _ (w.heap.size + 1 + 1) 2 (.int .i64 o)) (by omega))
  replace HB := hide (below_sc (p := ⟨w.heap.size + 1 + 1, 2, none⟩) (v := .int .i64 o) (unhide HB) (by dsimp only; omega))
  replace HX := hide ((unhide HX).oth (g' := w.heap.size + 1 + 1) (i := 3) (.slice ac (putI t zs).length cc) (by omega))
  replace HW := hide ((unhide HW).oth (g' := w.heap.size + 1 + 1) (i := 3) (.slice ac (putI t zs).length cc) (by omega))
  replace HY := hide (box_put (unhide HY) 3 (.slice ac (putI t zs).length cc) (by simp))
  replace HOA := hide ((unhide HOA).kg (grown_cel _ (w.heap.size + 1 + 1) 3 (.slice ac (putI t zs).length cc)) (by omega))
  replace HB := hide (below_sc (p := ⟨w.heap.size + 1 + 1, 3, none⟩) (v := .slice ac (putI t zs).length cc) (unhide HB) (by dsimp only; omega))
  replace HY := hide (show Box _ (w.heap.size + 1 + 1) [.int .i64 s, .int .i64 l, .int .i64 o, .slice ac (putI t zs).length cc] from unhide HY)
  have y0 := (unhide HY).cell 0 rfl
  have y1 := (unhide HY).cell 1 rfl
  have y2 := (unhide HY).cell 2 rfl
  have y3 := (unhide HY).cell 3 rfl
  refine hK.out _ _ (unhide HX) (fun hS2 => ?_)
  clear hK K
  try simp only [Act.put, List.setIfInBounds_toArray, List.set_cons_zero, List.set_cons_succ]
  refine tkW 6 (some 11) (v := ?_) ?_ ?_
  rotate_left
  · intro w hSw
    first | (go_simp; done) | (go_simp; with_reducible rfl) | with_reducible rfl | rfl
  try simp only [Act.put, List.setIfInBounds_toArray, List.set_cons_zero, List.set_cons_succ]
  refine doneW ?_
  go_wp2_with fail
  (try clear y0 y1 y2 y3)
  refine bodyPost_ret (v := .tuple #[gatV s l o (.slice ac (putI t zs).length cc), .bool true]) (results_ct Tryz.results6 rfl (load_gat (unhide HY))) rfl ?_
  rw [hg.1, hg.2.1, hg.2.2]
  exact ⟨_, rfl, (unhide HOA).mono (by omega), unhide HB⟩

set_option maxHeartbeats 8000000 in
theorem c7 (s l o : Int) (zs : List Int) (ao : Option Addr) (n cap : Nat) (t who a c : Int) (d : Bool) (ps : List Int) (bo : Option Addr) (m cap' : Nat) (w : World) (hn : zs.length = n) (hm : n ≤ 1048576) (hz : ao = none → cap = 0) (hr : Row w ao zs)
    (ht : -9223372036854775808 ≤ t ∧ t ≤ 9223372036854775807) (hf : FitR (a, c, d)) (hn2 : ps.length = m) (hc2 : m ≤ cap') (hm2 : m ≤ 1048576) (hr2 : Row w bo ps) : Calls Tryz.prog 7 #[gatV s l o (.slice ao n cap), .int .i64 t, .int .i64 who, rowV a c d, .slice bo m cap'] w (GTold2 w (showH s l o zs) (showD s l o zs t who a c d ps) (showB s l o zs t who a c d ps)) := by
  subst hn
  have HR := hide hr
  have HP := hide hr2
  have HZ := hide hz
  have HN2 := hide hn2
  have HFT := hide hf
  clear hr hr2 hz hn2 hf
  have HB := hide (Below.refl w.heap.size w)
  replace HB := hide (below_al (o := .cells #[.int .i64 s, .int .i64 l, .int .i64 o, .slice ao zs.length cap] 27) (unhide HB))
  replace HR := hide ((unhide HR).bel (below_a (.cells #[.int .i64 s, .int .i64 l, .int .i64 o, .slice ao zs.length cap] 27)))
  replace HP := hide ((unhide HP).bel (below_a (.cells #[.int .i64 s, .int .i64 l, .int .i64 o, .slice ao zs.length cap] 27)))
  have HX := hide (box_new w [.int .i64 s, .int .i64 l, .int .i64 o, .slice ao zs.length cap] 27 (by simp [Value.oneCell']))
  (try simp only [World.size_alloc] at HX)
  replace HB := hide (below_al (o := .cells #[.int .i64 a, .int .i64 c, .bool d] 29) (unhide HB))
  replace HR := hide ((unhide HR).bel (below_a (.cells #[.int .i64 a, .int .i64 c, .bool d] 29)))
  replace HP := hide ((unhide HP).bel (below_a (.cells #[.int .i64 a, .int .i64 c, .bool d] 29)))
  replace HX := hide ((unhide HX).bel (below_a (.cells #[.int .i64 a, .int .i64 c, .bool d] 29)))
  have HW := hide (box_new (w.alloc (.cells #[.int .i64 s, .int .i64 l, .int .i64 o, .slice ao zs.length cap] 27)) [.int .i64 a, .int .i64 c, .bool d] 29 (by simp [Value.oneCell']))
  (try simp only [World.size_alloc] at HW)
  replace HB := hide (below_al (o := .cells #[.int .i64 0, .int .i64 0, .int .i64 0, .slice none 0 0] 27) (unhide HB))
  replace HR := hide ((unhide HR).bel (below_a (.cells #[.int .i64 0, .int .i64 0, .int .i64 0, .slice none 0 0] 27)))
  replace HP := hide ((unhide HP).bel (below_a (.cells #[.int .i64 0, .int .i64 0, .int .i64 0, .slice none 0 0] 27)))
  replace HX := hide ((unhide HX).bel (below_a (.cells #[.int .i64 0, .int .i64 0, .int .i64 0, .slice none 0 0] 27)))
  replace HW := hide ((unhide HW).bel (below_a (.cells #[.int .i64 0, .int .i64 0, .int .i64 0, .slice none 0 0] 27)))
  have HY := hide (box_new ((w.alloc (.cells #[.int .i64 s, .int .i64 l, .int .i64 o, .slice ao zs.length cap] 27)).alloc (.cells #[.int .i64 a, .int .i64 c, .bool d] 29)) [.int .i64 0, .int .i64 0, .int .i64 0, .slice none 0 0] 27 (by simp [Value.oneCell']))
  (try simp only [World.size_alloc] at HY)
  have x0 := (unhide HX).cell 0 rfl
  have x1 := (unhide HX).cell 1 rfl
  have x2 := (unhide HX).cell 2 rfl
  have x3 := (unhide HX).cell 3 rfl
  have r0 := (unhide HW).cell 0 rfl
  have r1 := (unhide HW).cell 1 rfl
  have r2 := (unhide HW).cell 2 rfl
  have y0 := (unhide HY).cell 0 rfl
  have y0f := (unhide HY).frozen 0 rfl
  have y1 := (unhide HY).cell 1 rfl
  have y1f := (unhide HY).frozen 1 rfl
  have y2 := (unhide HY).cell 2 rfl
  have y2f := (unhide HY).frozen 2 rfl
  have y3 := (unhide HY).cell 3 rfl
  have y3f := (unhide HY).frozen 3 rfl
  go_enter Tryz.func7, Tryz.ntmps7
  go_wp2_with fail
  rcases h1 : gatOk s l o zs with _ | _
  case false =>
    have hg := sh_no (t := t) (who := who) (a := a) (c := c) (d := d) (ps := ps) h1
    refine (c9 s l o zs ao zs.length cap _ rfl (by omega) (unhide HR)).mono ?_
    rintro e w1 ⟨rfl, hb⟩
    rw [h1]
    (try clear x0 x1 x2 x3 r0 r1 r2 y0 y0f y1 y1f y2 y2f y3 y3f)
    replace HB := hide (below_tr (unhide HB) hb)
    replace HR := hide ((unhide HR).bel hb)
    replace HP := hide ((unhide HP).bel hb)
    replace HX := hide ((unhide HX).bel hb)
    replace HW := hide ((unhide HW).bel hb)
    replace HY := hide ((unhide HY).bel hb)
    clear hb
    have x0 := (unhide HX).cell 0 rfl
    have x1 := (unhide HX).cell 1 rfl
    have x2 := (unhide HX).cell 2 rfl
    have x3 := (unhide HX).cell 3 rfl
    have r0 := (unhide HW).cell 0 rfl
    have r1 := (unhide HW).cell 1 rfl
    have r2 := (unhide HW).cell 2 rfl
    have y0 := (unhide HY).cell 0 rfl
    have y0f := (unhide HY).frozen 0 rfl
    have y1 := (unhide HY).cell 1 rfl
    have y1f := (unhide HY).frozen 1 rfl
    have y2 := (unhide HY).cell 2 rfl
    have y2f := (unhide HY).frozen 2 rfl
    have y3 := (unhide HY).cell 3 rfl
    have y3f := (unhide HY).frozen 3 rfl
    go_wp2_with fail
    (try clear x0 x1 x2 x3 r0 r1 r2 y0 y0f y1 y1f y2 y2f y3 y3f)
    (try clear x0 x1 x2 x3 r0 r1 r2 y0 y0f y1 y1f y2 y2f y3 y3f)
    replace HX := hide ((unhide HX).oth (g' := w.heap.size + 1 + 1) (i := 0) (.int .i64 0) (by omega))
    replace HY := hide (box_put (unhide HY) 0 (.int .i64 0) (by simp))
    replace HB := hide (below_sc (p := ⟨w.heap.size + 1 + 1, 0, none⟩) (v := .int .i64 0) (unhide HB) (by dsimp only; omega))
    replace HX := hide ((unhide HX).oth (g' := w.heap.size + 1 + 1) (i := 1) (.int .i64 0) (by omega))
    replace HY := hide (box_put (unhide HY) 1 (.int .i64 0) (by simp))
    replace HB := hide (below_sc (p := ⟨w.heap.size + 1 + 1, 1, none⟩) (v := .int .i64 0) (unhide HB) (by dsimp only; omega))
    replace HX := hide ((unhide HX).oth (g' := w.heap.size + 1 + 1) (i := 2) (.int .i64 0) (by omega))
    replace HY := hide (box_put (unhide HY) 2 (.int .i64 0) (by simp))
    replace HB := hide (below_sc (p := ⟨w.heap.size + 1 + 1, 2, none⟩) (v := .int .i64 0) (unhide HB) (by dsimp only; omega))
    replace HX := hide ((unhide HX).oth (g' := w.heap.size + 1 + 1) (i := 3) (.slice none 0 0) (by omega))
    replace HY := hide (box_put (unhide HY) 3 (.slice none 0 0) (by simp))
    replace HB := hide (below_sc (p := ⟨w.heap.size + 1 + 1, 3, none⟩) (v := .slice none 0 0) (unhide HB) (by dsimp only; omega))
    replace HY := hide (show Box _ (w.heap.size + 1 + 1) [.int .i64 0, .int .i64 0, .int .i64 0, .slice none 0 0] from unhide HY)
    have x0 := (unhide HX).cell 0 rfl
    have x1 := (unhide HX).cell 1 rfl
    have x2 := (unhide HX).cell 2 rfl
    have x3 := (unhide HX).cell 3 rfl
    have r0 := (unhide HW).cell 0 rfl
    have r1 := (unhide HW).cell 1 rfl
    have r2 := (unhide HW).cell 2 rfl
    have y0 := (unhide HY).cell 0 rfl
    have y1 := (unhide HY).cell 1 rfl
    have y2 := (unhide HY).cell 2 rfl
    have y3 := (unhide HY).cell 3 rfl
    refine bodyPost_ret (v := .tuple #[gatV 0 0 0 (.slice none 0 0), .bool false]) (results_ct Tryz.results7 rfl (load_gat (unhide HY))) rfl ?_
    rw [hg.1, hg.2.1, hg.2.2]
    exact ⟨_, rfl, own_none _ _ (unhide HB).size, unhide HB⟩
  have HOK := hide h1
  refine (c9 s l o zs ao zs.length cap _ rfl (by omega) (unhide HR)).mono ?_
  rintro e w1 ⟨rfl, hb⟩
  rw [h1]
  (try clear x0 x1 x2 x3 r0 r1 r2 y0 y0f y1 y1f y2 y2f y3 y3f)
  replace HB := hide (below_tr (unhide HB) hb)
  replace HR := hide ((unhide HR).bel hb)
  replace HP := hide ((unhide HP).bel hb)
  replace HX := hide ((unhide HX).bel hb)
  replace HW := hide ((unhide HW).bel hb)
  replace HY := hide ((unhide HY).bel hb)
  clear hb
  have x0 := (unhide HX).cell 0 rfl
  have x1 := (unhide HX).cell 1 rfl
  have x2 := (unhide HX).cell 2 rfl
  have x3 := (unhide HX).cell 3 rfl
  have r0 := (unhide HW).cell 0 rfl
  have r1 := (unhide HW).cell 1 rfl
  have r2 := (unhide HW).cell 2 rfl
  have y0 := (unhide HY).cell 0 rfl
  have y0f := (unhide HY).frozen 0 rfl
  have y1 := (unhide HY).cell 1 rfl
  have y1f := (unhide HY).frozen 1 rfl
  have y2 := (unhide HY).cell 2 rfl
  have y2f := (unhide HY).frozen 2 rfl
  have y3 := (unhide HY).cell 3 rfl
  have y3f := (unhide HY).frozen 3 rfl
  go_wp2_with fail
  clear h1
  have hyb := (unhide HY).lt
  refine (c39 s l o zs ao zs.length cap _ rfl (by omega) (unhide HZ) (unhide HR)).mono ?_
  rintro e w2 ⟨v, rfl, ho, hb⟩
  have h12 := (unhide HY).lt
  obtain ⟨ac, cc, rfl⟩ := live_form ho.2
  (try clear x0 x1 x2 x3 r0 r1 r2 y0 y0f y1 y1f y2 y2f y3 y3f)
  replace HB := hide (below_tr (unhide HB) hb)
  replace HR := hide ((unhide HR).bel hb)
  replace HP := hide ((unhide HP).bel hb)
  replace HX := hide ((unhide HX).bel hb)
  replace HW := hide ((unhide HW).bel hb)
  replace HY := hide ((unhide HY).bel hb)
  have HOC := hide (ho)
  clear hb ho
  have x0 := (unhide HX).cell 0 rfl
  have x1 := (unhide HX).cell 1 rfl
  have x2 := (unhide HX).cell 2 rfl
  have x3 := (unhide HX).cell 3 rfl
  have r0 := (unhide HW).cell 0 rfl
  have r1 := (unhide HW).cell 1 rfl
  have r2 := (unhide HW).cell 2 rfl
  have y0 := (unhide HY).cell 0 rfl
  have y0f := (unhide HY).frozen 0 rfl
  have y1 := (unhide HY).cell 1 rfl
  have y1f := (unhide HY).frozen 1 rfl
  have y2 := (unhide HY).cell 2 rfl
  have y2f := (unhide HY).frozen 2 rfl
  have y3 := (unhide HY).cell 3 rfl
  have y3f := (unhide HY).frozen 3 rfl
  have HYB2 := hide (unhide HY).lt
  (try clear x0 x1 x2 x3 r0 r1 r2 y0 y0f y1 y1f y2 y2f y3 y3f)
  replace HB := hide (below_al (o := .cells #[.int .i64 s, .int .i64 l, .int .i64 o, .slice ac zs.length cc] 27) (unhide HB))
  replace HR := hide ((unhide HR).bel (below_a (.cells #[.int .i64 s, .int .i64 l, .int .i64 o, .slice ac zs.length cc] 27)))
  replace HP := hide ((unhide HP).bel (below_a (.cells #[.int .i64 s, .int .i64 l, .int .i64 o, .slice ac zs.length cc] 27)))
  replace HX := hide ((unhide HX).bel (below_a (.cells #[.int .i64 s, .int .i64 l, .int .i64 o, .slice ac zs.length cc] 27)))
  replace HW := hide ((unhide HW).bel (below_a (.cells #[.int .i64 s, .int .i64 l, .int .i64 o, .slice ac zs.length cc] 27)))
  replace HY := hide ((unhide HY).bel (below_a (.cells #[.int .i64 s, .int .i64 l, .int .i64 o, .slice ac zs.length cc] 27)))
  replace HOC := hide ((unhide HOC).bel (below_a (.cells #[.int .i64 s, .int .i64 l, .int .i64 o, .slice ac zs.length cc] 27)))
  have HQ := hide (box_new w2 [.int .i64 s, .int .i64 l, .int .i64 o, .slice ac zs.length cc] 27 (by simp [Value.oneCell']))
  have x0 := (unhide HX).cell 0 rfl
  have x1 := (unhide HX).cell 1 rfl
  have x2 := (unhide HX).cell 2 rfl
  have x3 := (unhide HX).cell 3 rfl
  have r0 := (unhide HW).cell 0 rfl
  have r1 := (unhide HW).cell 1 rfl
  have r2 := (unhide HW).cell 2 rfl
  have y0 := (unhide HY).cell 0 rfl
  have y0f := (unhide HY).frozen 0 rfl
  have y1 := (unhide HY).cell 1 rfl
  have y1f := (unhide HY).frozen 1 rfl
  have y2 := (unhide HY).cell 2 rfl
  have y2f := (unhide HY).frozen 2 rfl
  have y3 := (unhide HY).cell 3 rfl
  have y3f := (unhide HY).frozen 3 rfl
  have q0 := (unhide HQ).cell 0 rfl
  have q0f := (unhide HQ).frozen 0 rfl
  have q1 := (unhide HQ).cell 1 rfl
  have q1f := (unhide HQ).frozen 1 rfl
  have q2 := (unhide HQ).cell 2 rfl
  have q2f := (unhide HQ).frozen 2 rfl
  have q3 := (unhide HQ).cell 3 rfl
  have q3f := (unhide HQ).frozen 3 rfl
  have hgq := (unhide HQ).lt
  rcases e1 : decide (1 ≤ who ∧ who ≤ 5) with _ | _
  case false =>
    have hno := sb_1 (s := s) (l := l) (o := o) (zs := zs) (t := t) (a := a) (c := c) (d := d) (ps := ps) e1
    go_wp2_with fail
    refine (c40 who 1 5 _).mono ?_
    rintro e w3 ⟨rfl, hww⟩
    have hww := hww.symm
    subst hww
    rw [e1]
    go_wp2_with fail
    have hg := sh_not (unhide HOK) hno
    have HOA := hide (unhide HOC)
    clear HOC
    (try clear x0 x1 x2 x3 r0 r1 r2 y0 y0f y1 y1f y2 y2f y3 y3f q0 q0f q1 q1f q2 q2f q3 q3f)
    (try clear x0 x1 x2 x3 r0 r1 r2 y0 y0f y1 y1f y2 y2f y3 y3f q0 q0f q1 q1f q2 q2f q3 q3f)
    replace HX := hide ((unhide HX).oth (g' := w.heap.size + 1 + 1) (i := 0) (.int .i64 s) (by omega))
    replace HY := hide (box_put (unhide HY) 0 (.int .i64 s) (by simp))
    replace HOA := hide ((unhide HOA).kg (grown_cel _ (w.heap.size + 1 + 1) 0 (.int .i64 s)) (by omega))
    replace HB := hide (below_sc (p := ⟨w.heap.size + 1 + 1, 0, none⟩) (v := .int .i64 s) (unhide HB) (by dsimp only; omega))
    replace HX := hide ((unhide HX).oth (g' := w.heap.size + 1 + 1) (i := 1) (.int .i64 l) (by omega))
    replace HY := hide (box_put (unhide HY) 1 (.int .i64 l) (by simp))
    replace HOA := hide ((unhide HOA).kg (grown_cel _ (w.heap.size + 1 + 1) 1 (.int .i64 l)) (by omega))
    replace HB := hide (below_sc (p := ⟨w.heap.size + 1 + 1, 1, none⟩) (v := .int .i64 l) (unhide HB) (by dsimp only; omega))
    replace HX := hide ((unhide HX).oth (g' := w.heap.size + 1 + 1) (i := 2) (.int .i64 o) (by omega))
    replace HY := hide (box_put (unhide HY) 2 (.int .i64 o) (by simp))
    replace HOA := hide ((unhide HOA).kg (grown_cel _ (w.heap.size + 1 + 1) 2 (.int .i64 o)) (by omega))
    replace HB := hide (below_sc (p := ⟨w.heap.size + 1 + 1, 2, none⟩) (v := .int .i64 o) (unhide HB) (by dsimp only; omega))
    replace HX := hide ((unhide HX).oth (g' := w.heap.size + 1 + 1) (i := 3) (.slice ac zs.length cc) (by omega))
    replace HY := hide (box_put (unhide HY) 3 (.slice ac zs.length cc) (by simp))
    replace HOA := hide ((unhide HOA).kg (grown_cel _ (w.heap.size + 1 + 1) 3 (.slice ac zs.length cc)) (by omega))
    replace HB := hide (below_sc (p := ⟨w.heap.size + 1 + 1, 3, none⟩) (v := .slice ac zs.length cc) (unhide HB) (by dsimp only; omega))
    replace HY := hide (show Box _ (w.heap.size + 1 + 1) [.int .i64 s, .int .i64 l, .int .i64 o, .slice ac zs.length cc] from unhide HY)
    have x0 := (unhide HX).cell 0 rfl
    have x1 := (unhide HX).cell 1 rfl
    have x2 := (unhide HX).cell 2 rfl
    have x3 := (unhide HX).cell 3 rfl
    have r0 := (unhide HW).cell 0 rfl
    have r1 := (unhide HW).cell 1 rfl
    have r2 := (unhide HW).cell 2 rfl
    have y0 := (unhide HY).cell 0 rfl
    have y1 := (unhide HY).cell 1 rfl
    have y2 := (unhide HY).cell 2 rfl
    have y3 := (unhide HY).cell 3 rfl
    have q0 := (unhide HQ).cell 0 rfl
    have q0f := (unhide HQ).frozen 0 rfl
    have q1 := (unhide HQ).cell 1 rfl
    have q1f := (unhide HQ).frozen 1 rfl
    have q2 := (unhide HQ).cell 2 rfl
    have q2f := (unhide HQ).frozen 2 rfl
    have q3 := (unhide HQ).cell 3 rfl
    have q3f := (unhide HQ).frozen 3 rfl
    refine bodyPost_ret (v := .tuple #[gatV s l o (.slice ac zs.length cc), .bool false]) (results_ct Tryz.results7 rfl (load_gat (unhide HY))) rfl ?_
    rw [hg.1, hg.2.1, hg.2.2]
    exact ⟨_, rfl, (unhide HOA).mono (by omega), unhide HB⟩
  go_wp2_with fail
  by_cases e2 : a = who
  case neg =>
    have hno := sb_2 (s := s) (l := l) (o := o) (zs := zs) (t := t) (c := c) (d := d) (ps := ps) (decide_eq_false e2)
    have d1 : (a == who) = false := by rw [beq_eq_false_iff_ne]; exact e2
    have d2 : (a != who) = true := by simp [bne, d1]
    refine (c40 who 1 5 _).mono ?_
    rintro e w3 ⟨rfl, hww⟩
    have hww := hww.symm
    subst hww
    rw [e1]
    go_wp2_with fail
    have hg := sh_not (unhide HOK) hno
    have HOA := hide (unhide HOC)
    clear HOC
    (try clear x0 x1 x2 x3 r0 r1 r2 y0 y0f y1 y1f y2 y2f y3 y3f q0 q0f q1 q1f q2 q2f q3 q3f)
    (try clear x0 x1 x2 x3 r0 r1 r2 y0 y0f y1 y1f y2 y2f y3 y3f q0 q0f q1 q1f q2 q2f q3 q3f)
    replace HX := hide ((unhide HX).oth (g' := w.heap.size + 1 + 1) (i := 0) (.int .i64 s) (by omega))
    replace HY := hide (box_put (unhide HY) 0 (.int .i64 s) (by simp))
    replace HOA := hide ((unhide HOA).kg (grown_cel _ (w.heap.size + 1 + 1) 0 (.int .i64 s)) (by omega))
    replace HB := hide (below_sc (p := ⟨w.heap.size + 1 + 1, 0, none⟩) (v := .int .i64 s) (unhide HB) (by dsimp only; omega))
    replace HX := hide ((unhide HX).oth (g' := w.heap.size + 1 + 1) (i := 1) (.int .i64 l) (by omega))
    replace HY := hide (box_put (unhide HY) 1 (.int .i64 l) (by simp))
    replace HOA := hide ((unhide HOA).kg (grown_cel _ (w.heap.size + 1 + 1) 1 (.int .i64 l)) (by omega))
    replace HB := hide (below_sc (p := ⟨w.heap.size + 1 + 1, 1, none⟩) (v := .int .i64 l) (unhide HB) (by dsimp only; omega))
    replace HX := hide ((unhide HX).oth (g' := w.heap.size + 1 + 1) (i := 2) (.int .i64 o) (by omega))
    replace HY := hide (box_put (unhide HY) 2 (.int .i64 o) (by simp))
    replace HOA := hide ((unhide HOA).kg (grown_cel _ (w.heap.size + 1 + 1) 2 (.int .i64 o)) (by omega))
    replace HB := hide (below_sc (p := ⟨w.heap.size + 1 + 1, 2, none⟩) (v := .int .i64 o) (unhide HB) (by dsimp only; omega))
    replace HX := hide ((unhide HX).oth (g' := w.heap.size + 1 + 1) (i := 3) (.slice ac zs.length cc) (by omega))
    replace HY := hide (box_put (unhide HY) 3 (.slice ac zs.length cc) (by simp))
    replace HOA := hide ((unhide HOA).kg (grown_cel _ (w.heap.size + 1 + 1) 3 (.slice ac zs.length cc)) (by omega))
    replace HB := hide (below_sc (p := ⟨w.heap.size + 1 + 1, 3, none⟩) (v := .slice ac zs.length cc) (unhide HB) (by dsimp only; omega))
    replace HY := hide (show Box _ (w.heap.size + 1 + 1) [.int .i64 s, .int .i64 l, .int .i64 o, .slice ac zs.length cc] from unhide HY)
    have x0 := (unhide HX).cell 0 rfl
    have x1 := (unhide HX).cell 1 rfl
    have x2 := (unhide HX).cell 2 rfl
    have x3 := (unhide HX).cell 3 rfl
    have r0 := (unhide HW).cell 0 rfl
    have r1 := (unhide HW).cell 1 rfl
    have r2 := (unhide HW).cell 2 rfl
    have y0 := (unhide HY).cell 0 rfl
    have y1 := (unhide HY).cell 1 rfl
    have y2 := (unhide HY).cell 2 rfl
    have y3 := (unhide HY).cell 3 rfl
    have q0 := (unhide HQ).cell 0 rfl
    have q0f := (unhide HQ).frozen 0 rfl
    have q1 := (unhide HQ).cell 1 rfl
    have q1f := (unhide HQ).frozen 1 rfl
    have q2 := (unhide HQ).cell 2 rfl
    have q2f := (unhide HQ).frozen 2 rfl
    have q3 := (unhide HQ).cell 3 rfl
    have q3f := (unhide HQ).frozen 3 rfl
    refine bodyPost_ret (v := .tuple #[gatV s l o (.slice ac zs.length cc), .bool false]) (results_ct Tryz.results7 rfl (load_gat (unhide HY))) rfl ?_
    rw [hg.1, hg.2.1, hg.2.2]
    exact ⟨_, rfl, (unhide HOA).mono (by omega), unhide HB⟩
  subst e2
  cases d
  case true =>
    have hno := sb_3 (s := s) (l := l) (o := o) (zs := zs) (t := t) (who := a) (a := a) (c := c) (d := true) (ps := ps) rfl
    refine (c40 a 1 5 _).mono ?_
    rintro e w3 ⟨rfl, hww⟩
    have hww := hww.symm
    subst hww
    rw [e1]
    go_wp2_with fail
    have hg := sh_not (unhide HOK) hno
    have HOA := hide (unhide HOC)
    clear HOC
    (try clear x0 x1 x2 x3 r0 r1 r2 y0 y0f y1 y1f y2 y2f y3 y3f q0 q0f q1 q1f q2 q2f q3 q3f)
    (try clear x0 x1 x2 x3 r0 r1 r2 y0 y0f y1 y1f y2 y2f y3 y3f q0 q0f q1 q1f q2 q2f q3 q3f)
    replace HX := hide ((unhide HX).oth (g' := w.heap.size + 1 + 1) (i := 0) (.int .i64 s) (by omega))
    replace HY := hide (box_put (unhide HY) 0 (.int .i64 s) (by simp))
    replace HOA := hide ((unhide HOA).kg (grown_cel _ (w.heap.size + 1 + 1) 0 (.int .i64 s)) (by omega))
    replace HB := hide (below_sc (p := ⟨w.heap.size + 1 + 1, 0, none⟩) (v := .int .i64 s) (unhide HB) (by dsimp only; omega))
    replace HX := hide ((unhide HX).oth (g' := w.heap.size + 1 + 1) (i := 1) (.int .i64 l) (by omega))
    replace HY := hide (box_put (unhide HY) 1 (.int .i64 l) (by simp))
    replace HOA := hide ((unhide HOA).kg (grown_cel _ (w.heap.size + 1 + 1) 1 (.int .i64 l)) (by omega))
    replace HB := hide (below_sc (p := ⟨w.heap.size + 1 + 1, 1, none⟩) (v := .int .i64 l) (unhide HB) (by dsimp only; omega))
    replace HX := hide ((unhide HX).oth (g' := w.heap.size + 1 + 1) (i := 2) (.int .i64 o) (by omega))
    replace HY := hide (box_put (unhide HY) 2 (.int .i64 o) (by simp))
    replace HOA := hide ((unhide HOA).kg (grown_cel _ (w.heap.size + 1 + 1) 2 (.int .i64 o)) (by omega))
    replace HB := hide (below_sc (p := ⟨w.heap.size + 1 + 1, 2, none⟩) (v := .int .i64 o) (unhide HB) (by dsimp only; omega))
    replace HX := hide ((unhide HX).oth (g' := w.heap.size + 1 + 1) (i := 3) (.slice ac zs.length cc) (by omega))
    replace HY := hide (box_put (unhide HY) 3 (.slice ac zs.length cc) (by simp))
    replace HOA := hide ((unhide HOA).kg (grown_cel _ (w.heap.size + 1 + 1) 3 (.slice ac zs.length cc)) (by omega))
    replace HB := hide (below_sc (p := ⟨w.heap.size + 1 + 1, 3, none⟩) (v := .slice ac zs.length cc) (unhide HB) (by dsimp only; omega))
    replace HY := hide (show Box _ (w.heap.size + 1 + 1) [.int .i64 s, .int .i64 l, .int .i64 o, .slice ac zs.length cc] from unhide HY)
    have x0 := (unhide HX).cell 0 rfl
    have x1 := (unhide HX).cell 1 rfl
    have x2 := (unhide HX).cell 2 rfl
    have x3 := (unhide HX).cell 3 rfl
    have r0 := (unhide HW).cell 0 rfl
    have r1 := (unhide HW).cell 1 rfl
    have r2 := (unhide HW).cell 2 rfl
    have y0 := (unhide HY).cell 0 rfl
    have y1 := (unhide HY).cell 1 rfl
    have y2 := (unhide HY).cell 2 rfl
    have y3 := (unhide HY).cell 3 rfl
    have q0 := (unhide HQ).cell 0 rfl
    have q0f := (unhide HQ).frozen 0 rfl
    have q1 := (unhide HQ).cell 1 rfl
    have q1f := (unhide HQ).frozen 1 rfl
    have q2 := (unhide HQ).cell 2 rfl
    have q2f := (unhide HQ).frozen 2 rfl
    have q3 := (unhide HQ).cell 3 rfl
    have q3f := (unhide HQ).frozen 3 rfl
    refine bodyPost_ret (v := .tuple #[gatV s l o (.slice ac zs.length cc), .bool false]) (results_ct Tryz.results7 rfl (load_gat (unhide HY))) rfl ?_
    rw [hg.1, hg.2.1, hg.2.2]
    exact ⟨_, rfl, (unhide HOA).mono (by omega), unhide HB⟩
  refine (c40 a 1 5 _).mono ?_
  rintro e w3 ⟨rfl, hww⟩
  have hww := hww.symm
  subst hww
  rw [e1]
  go_wp2_with fail
  rcases e4 : hasB zs t with _ | _
  case true =>
    have hno := sb_4 (s := s) (l := l) (o := o) (who := a) (a := a) (c := c) (d := false) (ps := ps) e4
    refine (c41 zs ao zs.length cap t _ rfl (by omega) (unhide HR)).mono ?_
    rintro e w4 ⟨rfl, hb⟩
    rw [e4]
    (try clear x0 x1 x2 x3 r0 r1 r2 y0 y0f y1 y1f y2 y2f y3 y3f q0 q0f q1 q1f q2 q2f q3 q3f)
    replace HB := hide (below_tr (unhide HB) hb)
    replace HR := hide ((unhide HR).bel hb)
    replace HP := hide ((unhide HP).bel hb)
    replace HX := hide ((unhide HX).bel hb)
    replace HW := hide ((unhide HW).bel hb)
    replace HY := hide ((unhide HY).bel hb)
    replace HOC := hide ((unhide HOC).bel hb)
    replace HQ := hide ((unhide HQ).bel hb)
    clear hb
    have x0 := (unhide HX).cell 0 rfl
    have x1 := (unhide HX).cell 1 rfl
    have x2 := (unhide HX).cell 2 rfl
    have x3 := (unhide HX).cell 3 rfl
    have r0 := (unhide HW).cell 0 rfl
    have r1 := (unhide HW).cell 1 rfl
    have r2 := (unhide HW).cell 2 rfl
    have y0 := (unhide HY).cell 0 rfl
    have y0f := (unhide HY).frozen 0 rfl
    have y1 := (unhide HY).cell 1 rfl
    have y1f := (unhide HY).frozen 1 rfl
    have y2 := (unhide HY).cell 2 rfl
    have y2f := (unhide HY).frozen 2 rfl
    have y3 := (unhide HY).cell 3 rfl
    have y3f := (unhide HY).frozen 3 rfl
    have q0 := (unhide HQ).cell 0 rfl
    have q0f := (unhide HQ).frozen 0 rfl
    have q1 := (unhide HQ).cell 1 rfl
    have q1f := (unhide HQ).frozen 1 rfl
    have q2 := (unhide HQ).cell 2 rfl
    have q2f := (unhide HQ).frozen 2 rfl
    have q3 := (unhide HQ).cell 3 rfl
    have q3f := (unhide HQ).frozen 3 rfl
    go_wp2_with fail
    have hg := sh_not (unhide HOK) hno
    have HOA := hide (unhide HOC)
    clear HOC
    (try clear x0 x1 x2 x3 r0 r1 r2 y0 y0f y1 y1f y2 y2f y3 y3f q0 q0f q1 q1f q2 q2f q3 q3f)
    (try clear x0 x1 x2 x3 r0 r1 r2 y0 y0f y1 y1f y2 y2f y3 y3f q0 q0f q1 q1f q2 q2f q3 q3f)
    replace HX := hide ((unhide HX).oth (g' := w.heap.size + 1 + 1) (i := 0) (.int .i64 s) (by omega))
    replace HY := hide (box_put (unhide HY) 0 (.int .i64 s) (by simp))
    replace HOA := hide ((unhide HOA).kg (grown_cel _ (w.heap.size + 1 + 1) 0 (.int .i64 s)) (by omega))
    replace HB := hide (below_sc (p := ⟨w.heap.size + 1 + 1, 0, none⟩) (v := .int .i64 s) (unhide HB) (by dsimp only; omega))
    replace HX := hide ((unhide HX).oth (g' := w.heap.size + 1 + 1) (i := 1) (.int .i64 l) (by omega))
    replace HY := hide (box_put (unhide HY) 1 (.int .i64 l) (by simp))
    replace HOA := hide ((unhide HOA).kg (grown_cel _ (w.heap.size + 1 + 1) 1 (.int .i64 l)) (by omega))
    replace HB := hide (below_sc (p := ⟨w.heap.size + 1 + 1, 1, none⟩) (v := .int .i64 l) (unhide HB) (by dsimp only; omega))
    replace HX := hide ((unhide HX).oth (g' := w.heap.size + 1 + 1) (i := 2) (.int .i64 o) (by omega))
    replace HY := hide (box_put (unhide HY) 2 (.int .i64 o) (by simp))
    replace HOA := hide ((unhide HOA).kg (grown_cel _ (w.heap.size + 1 + 1) 2 (.int .i64 o)) (by omega))
    replace HB := hide (below_sc (p := ⟨w.heap.size + 1 + 1, 2, none⟩) (v := .int .i64 o) (unhide HB) (by dsimp only; omega))
    replace HX := hide ((unhide HX).oth (g' := w.heap.size + 1 + 1) (i := 3) (.slice ac zs.length cc) (by omega))
    replace HY := hide (box_put (unhide HY) 3 (.slice ac zs.length cc) (by simp))
    replace HOA := hide ((unhide HOA).kg (grown_cel _ (w.heap.size + 1 + 1) 3 (.slice ac zs.length cc)) (by omega))
    replace HB := hide (below_sc (p := ⟨w.heap.size + 1 + 1, 3, none⟩) (v := .slice ac zs.length cc) (unhide HB) (by dsimp only; omega))
    replace HY := hide (show Box _ (w.heap.size + 1 + 1) [.int .i64 s, .int .i64 l, .int .i64 o, .slice ac zs.length cc] from unhide HY)
    have x0 := (unhide HX).cell 0 rfl
    have x1 := (unhide HX).cell 1 rfl
    have x2 := (unhide HX).cell 2 rfl
    have x3 := (unhide HX).cell 3 rfl
    have r0 := (unhide HW).cell 0 rfl
    have r1 := (unhide HW).cell 1 rfl
    have r2 := (unhide HW).cell 2 rfl
    have y0 := (unhide HY).cell 0 rfl
    have y1 := (unhide HY).cell 1 rfl
    have y2 := (unhide HY).cell 2 rfl
    have y3 := (unhide HY).cell 3 rfl
    have q0 := (unhide HQ).cell 0 rfl
    have q0f := (unhide HQ).frozen 0 rfl
    have q1 := (unhide HQ).cell 1 rfl
    have q1f := (unhide HQ).frozen 1 rfl
    have q2 := (unhide HQ).cell 2 rfl
    have q2f := (unhide HQ).frozen 2 rfl
    have q3 := (unhide HQ).cell 3 rfl
    have q3f := (unhide HQ).frozen 3 rfl
    refine bodyPost_ret (v := .tuple #[gatV s l o (.slice ac zs.length cc), .bool false]) (results_ct Tryz.results7 rfl (load_gat (unhide HY))) rfl ?_
    rw [hg.1, hg.2.1, hg.2.2]
    exact ⟨_, rfl, (unhide HOA).mono (by omega), unhide HB⟩
  refine (c41 zs ao zs.length cap t _ rfl (by omega) (unhide HR)).mono ?_
  rintro e w4 ⟨rfl, hb⟩
  rw [e4]
  (try clear x0 x1 x2 x3 r0 r1 r2 y0 y0f y1 y1f y2 y2f y3 y3f q0 q0f q1 q1f q2 q2f q3 q3f)
  replace HB := hide (below_tr (unhide HB) hb)
  replace HR := hide ((unhide HR).bel hb)
  replace HP := hide ((unhide HP).bel hb)
  replace HX := hide ((unhide HX).bel hb)
  replace HW := hide ((unhide HW).bel hb)
  replace HY := hide ((unhide HY).bel hb)
  replace HOC := hide ((unhide HOC).bel hb)
  replace HQ := hide ((unhide HQ).bel hb)
  clear hb
  have x0 := (unhide HX).cell 0 rfl
  have x1 := (unhide HX).cell 1 rfl
  have x2 := (unhide HX).cell 2 rfl
  have x3 := (unhide HX).cell 3 rfl
  have r0 := (unhide HW).cell 0 rfl
  have r1 := (unhide HW).cell 1 rfl
  have r2 := (unhide HW).cell 2 rfl
  have y0 := (unhide HY).cell 0 rfl
  have y0f := (unhide HY).frozen 0 rfl
  have y1 := (unhide HY).cell 1 rfl
  have y1f := (unhide HY).frozen 1 rfl
  have y2 := (unhide HY).cell 2 rfl
  have y2f := (unhide HY).frozen 2 rfl
  have y3 := (unhide HY).cell 3 rfl
  have y3f := (unhide HY).frozen 3 rfl
  have q0 := (unhide HQ).cell 0 rfl
  have q0f := (unhide HQ).frozen 0 rfl
  have q1 := (unhide HQ).cell 1 rfl
  have q1f := (unhide HQ).frozen 1 rfl
  have q2 := (unhide HQ).cell 2 rfl
  have q2f := (unhide HQ).frozen 2 rfl
  have q3 := (unhide HQ).cell 3 rfl
  have q3f := (unhide HQ).frozen 3 rfl
  go_wp2_with fail
  rcases e5 : Tm.ownCheck o t (a, c, false) ps with _ | _
  case false =>
    have hno := sb_5 (s := s) (l := l) (zs := zs) (who := a) e5
    refine (c42 ps o t a c false bo m cap' _ (unhide HN2) hc2 hm2 (unhide HFT) (unhide HP)).mono ?_
    rintro e w5 ⟨rfl, hb⟩
    rw [e5]
    (try clear x0 x1 x2 x3 r0 r1 r2 y0 y0f y1 y1f y2 y2f y3 y3f q0 q0f q1 q1f q2 q2f q3 q3f)
    replace HB := hide (below_tr (unhide HB) hb)
    replace HR := hide ((unhide HR).bel hb)
    replace HP := hide ((unhide HP).bel hb)
    replace HX := hide ((unhide HX).bel hb)
    replace HW := hide ((unhide HW).bel hb)
    replace HY := hide ((unhide HY).bel hb)
    replace HOC := hide ((unhide HOC).bel hb)
    replace HQ := hide ((unhide HQ).bel hb)
    clear hb
    have x0 := (unhide HX).cell 0 rfl
    have x1 := (unhide HX).cell 1 rfl
    have x2 := (unhide HX).cell 2 rfl
    have x3 := (unhide HX).cell 3 rfl
    have r0 := (unhide HW).cell 0 rfl
    have r1 := (unhide HW).cell 1 rfl
    have r2 := (unhide HW).cell 2 rfl
    have y0 := (unhide HY).cell 0 rfl
    have y0f := (unhide HY).frozen 0 rfl
    have y1 := (unhide HY).cell 1 rfl
    have y1f := (unhide HY).frozen 1 rfl
    have y2 := (unhide HY).cell 2 rfl
    have y2f := (unhide HY).frozen 2 rfl
    have y3 := (unhide HY).cell 3 rfl
    have y3f := (unhide HY).frozen 3 rfl
    have q0 := (unhide HQ).cell 0 rfl
    have q0f := (unhide HQ).frozen 0 rfl
    have q1 := (unhide HQ).cell 1 rfl
    have q1f := (unhide HQ).frozen 1 rfl
    have q2 := (unhide HQ).cell 2 rfl
    have q2f := (unhide HQ).frozen 2 rfl
    have q3 := (unhide HQ).cell 3 rfl
    have q3f := (unhide HQ).frozen 3 rfl
    go_wp2_with fail
    have hg := sh_not (unhide HOK) hno
    have HOA := hide (unhide HOC)
    clear HOC
    (try clear x0 x1 x2 x3 r0 r1 r2 y0 y0f y1 y1f y2 y2f y3 y3f q0 q0f q1 q1f q2 q2f q3 q3f)
    (try clear x0 x1 x2 x3 r0 r1 r2 y0 y0f y1 y1f y2 y2f y3 y3f q0 q0f q1 q1f q2 q2f q3 q3f)
    replace HX := hide ((unhide HX).oth (g' := w.heap.size + 1 + 1) (i := 0) (.int .i64 s) (by omega))
    replace HY := hide (box_put (unhide HY) 0 (.int .i64 s) (by simp))
    replace HOA := hide ((unhide HOA).kg (grown_cel _ (w.heap.size + 1 + 1) 0 (.int .i64 s)) (by omega))
    replace HB := hide (below_sc (p := ⟨w.heap.size + 1 + 1, 0, none⟩) (v := .int .i64 s) (unhide HB) (by dsimp only; omega))
    replace HX := hide ((unhide HX).oth (g' := w.heap.size + 1 + 1) (i := 1) (.int .i64 l) (by omega))
    replace HY := hide (box_put (unhide HY) 1 (.int .i64 l) (by simp))
    replace HOA := hide ((unhide HOA).kg (grown_cel _ (w.heap.size + 1 + 1) 1 (.int .i64 l)) (by omega))
    replace HB := hide (below_sc (p := ⟨w.heap.size + 1 + 1, 1, none⟩) (v := .int .i64 l) (unhide HB) (by dsimp only; omega))
    replace HX := hide ((unhide HX).oth (g' := w.heap.size + 1 + 1) (i := 2) (.int .i64 o) (by omega))
    replace HY := hide (box_put (unhide HY) 2 (.int .i64 o) (by simp))
    replace HOA := hide ((unhide HOA).kg (grown_cel _ (w.heap.size + 1 + 1) 2 (.int .i64 o)) (by omega))
    replace HB := hide (below_sc (p := ⟨w.heap.size + 1 + 1, 2, none⟩) (v := .int .i64 o) (unhide HB) (by dsimp only; omega))
    replace HX := hide ((unhide HX).oth (g' := w.heap.size + 1 + 1) (i := 3) (.slice ac zs.length cc) (by omega))
    replace HY := hide (box_put (unhide HY) 3 (.slice ac zs.length cc) (by simp))
    replace HOA := hide ((unhide HOA).kg (grown_cel _ (w.heap.size + 1 + 1) 3 (.slice ac zs.length cc)) (by omega))
    replace HB := hide (below_sc (p := ⟨w.heap.size + 1 + 1, 3, none⟩) (v := .slice ac zs.length cc) (unhide HB) (by dsimp only; omega))
    replace HY := hide (show Box _ (w.heap.size + 1 + 1) [.int .i64 s, .int .i64 l, .int .i64 o, .slice ac zs.length cc] from unhide HY)
    have x0 := (unhide HX).cell 0 rfl
    have x1 := (unhide HX).cell 1 rfl
    have x2 := (unhide HX).cell 2 rfl
    have x3 := (unhide HX).cell 3 rfl
    have r0 := (unhide HW).cell 0 rfl
    have r1 := (unhide HW).cell 1 rfl
    have r2 := (unhide HW).cell 2 rfl
    have y0 := (unhide HY).cell 0 rfl
    have y1 := (unhide HY).cell 1 rfl
    have y2 := (unhide HY).cell 2 rfl
    have y3 := (unhide HY).cell 3 rfl
    have q0 := (unhide HQ).cell 0 rfl
    have q0f := (unhide HQ).frozen 0 rfl
    have q1 := (unhide HQ).cell 1 rfl
    have q1f := (unhide HQ).frozen 1 rfl
    have q2 := (unhide HQ).cell 2 rfl
    have q2f := (unhide HQ).frozen 2 rfl
    have q3 := (unhide HQ).cell 3 rfl
    have q3f := (unhide HQ).frozen 3 rfl
    refine bodyPost_ret (v := .tuple #[gatV s l o (.slice ac zs.length cc), .bool false]) (results_ct Tryz.results7 rfl (load_gat (unhide HY))) rfl ?_
    rw [hg.1, hg.2.1, hg.2.2]
    exact ⟨_, rfl, (unhide HOA).mono (by omega), unhide HB⟩
  refine (c42 ps o t a c false bo m cap' _ (unhide HN2) hc2 hm2 (unhide HFT) (unhide HP)).mono ?_
  rintro e w5 ⟨rfl, hb⟩
  rw [e5]
  (try clear x0 x1 x2 x3 r0 r1 r2 y0 y0f y1 y1f y2 y2f y3 y3f q0 q0f q1 q1f q2 q2f q3 q3f)
  replace HB := hide (below_tr (unhide HB) hb)
  replace HR := hide ((unhide HR).bel hb)
  replace HP := hide ((unhide HP).bel hb)
  replace HX := hide ((unhide HX).bel hb)
  replace HW := hide ((unhide HW).bel hb)
  replace HY := hide ((unhide HY).bel hb)
  replace HOC := hide ((unhide HOC).bel hb)
  replace HQ := hide ((unhide HQ).bel hb)
  clear hb
  have x0 := (unhide HX).cell 0 rfl
  have x1 := (unhide HX).cell 1 rfl
  have x2 := (unhide HX).cell 2 rfl
  have x3 := (unhide HX).cell 3 rfl
  have r0 := (unhide HW).cell 0 rfl
  have r1 := (unhide HW).cell 1 rfl
  have r2 := (unhide HW).cell 2 rfl
  have y0 := (unhide HY).cell 0 rfl
  have y0f := (unhide HY).frozen 0 rfl
  have y1 := (unhide HY).cell 1 rfl
  have y1f := (unhide HY).frozen 1 rfl
  have y2 := (unhide HY).cell 2 rfl
  have y2f := (unhide HY).frozen 2 rfl
  have y3 := (unhide HY).cell 3 rfl
  have y3f := (unhide HY).frozen 3 rfl
  have q0 := (unhide HQ).cell 0 rfl
  have q0f := (unhide HQ).frozen 0 rfl
  have q1 := (unhide HQ).cell 1 rfl
  have q1f := (unhide HQ).frozen 1 rfl
  have q2 := (unhide HQ).cell 2 rfl
  have q2f := (unhide HQ).frozen 2 rfl
  have q3 := (unhide HQ).cell 3 rfl
  have q3f := (unhide HQ).frozen 3 rfl
  go_wp2_with fail
  have hg := sh_go (unhide HOK) (sb_6 (unhide HOK) e1 (decide_eq_true rfl) rfl e4 e5)
  clear e5
  refine (c43 zs ao zs.length cap t _ rfl (by omega) ht (unhide HR)).mono ?_
  rintro e w6 ⟨v, rfl, ho, hb⟩
  have hyb2 := unhide HYB2
  have h13 := (unhide HY).lt
  have h14 := (unhide HQ).lt
  obtain ⟨ap, cp, rfl⟩ := live_form ho.2
  (try clear x0 x1 x2 x3 r0 r1 r2 y0 y0f y1 y1f y2 y2f y3 y3f q0 q0f q1 q1f q2 q2f q3 q3f)
  replace HB := hide (below_tr (unhide HB) hb)
  replace HR := hide ((unhide HR).bel hb)
  replace HP := hide ((unhide HP).bel hb)
  replace HX := hide ((unhide HX).bel hb)
  replace HW := hide ((unhide HW).bel hb)
  replace HY := hide ((unhide HY).bel hb)
  replace HQ := hide ((unhide HQ).bel hb)
  clear HOC
  have HOA := hide (ho)
  clear hb ho
  have x0 := (unhide HX).cell 0 rfl
  have x1 := (unhide HX).cell 1 rfl
  have x2 := (unhide HX).cell 2 rfl
  have x3 := (unhide HX).cell 3 rfl
  have r0 := (unhide HW).cell 0 rfl
  have r1 := (unhide HW).cell 1 rfl
  have r2 := (unhide HW).cell 2 rfl
  have y0 := (unhide HY).cell 0 rfl
  have y0f := (unhide HY).frozen 0 rfl
  have y1 := (unhide HY).cell 1 rfl
  have y1f := (unhide HY).frozen 1 rfl
  have y2 := (unhide HY).cell 2 rfl
  have y2f := (unhide HY).frozen 2 rfl
  have y3 := (unhide HY).cell 3 rfl
  have y3f := (unhide HY).frozen 3 rfl
  have q0 := (unhide HQ).cell 0 rfl
  have q0f := (unhide HQ).frozen 0 rfl
  have q1 := (unhide HQ).cell 1 rfl
  have q1f := (unhide HQ).frozen 1 rfl
  have q2 := (unhide HQ).cell 2 rfl
  have q2f := (unhide HQ).frozen 2 rfl
  have q3 := (unhide HQ).cell 3 rfl
  have q3f := (unhide HQ).frozen 3 rfl
  (try clear x0 x1 x2 x3 r0 r1 r2 y0 y0f y1 y1f y2 y2f y3 y3f q0 q0f q1 q1f q2 q2f q3 q3f)
  have hqy : w2.heap.size ≠ w.heap.size + 1 + 1 := by omega
  have q0 := (unhide HQ).cell 0 rfl
  have q0f := (unhide HQ).frozen 0 rfl
  have q1 := (unhide HQ).cell 1 rfl
  have q1f := (unhide HQ).frozen 1 rfl
  have q2 := (unhide HQ).cell 2 rfl
  have q2f := (unhide HQ).frozen 2 rfl
  have q3 := (unhide HQ).cell 3 rfl
  have q3f := (unhide HQ).frozen 3 rfl
  have y0 := (unhide HY).cell 0 rfl
  have y0f := (unhide HY).frozen 0 rfl
  have y1 := (unhide HY).cell 1 rfl
  have y1f := (unhide HY).frozen 1 rfl
  have y2 := (unhide HY).cell 2 rfl
  have y2f := (unhide HY).frozen 2 rfl
  have y3 := (unhide HY).cell 3 rfl
  have y3f := (unhide HY).frozen 3 rfl
  go_wp2_with fail
  (try clear q0 q0f q1 q1f q2 q2f q3 q3f y0 y0f y1 y1f y2 y2f y3 y3f)
  have hq9 := (unhide HQ).lt
  replace HY := hide ((unhide HY).oth (g' := w2.heap.size) (i := 3) (.slice ap (putI t zs).length cp) (by omega))
  replace HOA := hide ((unhide HOA).kg (grown_cel _ (w2.heap.size) 3 (.slice ap (putI t zs).length cp)) (by omega))
  replace HB := hide (below_sc (p := ⟨w2.heap.size, 3, none⟩) (v := .slice ap (putI t zs).length cp) (unhide HB) (by dsimp only; omega))
  clear HQ
  replace HY := hide (box_put (unhide HY) 0 (.int .i64 s) (by simp))
  replace HOA := hide ((unhide HOA).kg (grown_cel _ (w.heap.size + 1 + 1) 0 (.int .i64 s)) (by omega))
  replace HB := hide (below_sc (p := ⟨w.heap.size + 1 + 1, 0, none⟩) (v := .int .i64 s) (unhide HB) (by dsimp only; omega))
  replace HY := hide (box_put (unhide HY) 1 (.int .i64 l) (by simp))
  replace HOA := hide ((unhide HOA).kg (grown_cel _ (w.heap.size + 1 + 1) 1 (.int .i64 l)) (by omega))
  replace HB := hide (below_sc (p := ⟨w.heap.size + 1 + 1, 1, none⟩) (v := .int .i64 l) (unhide HB) (by dsimp only; omega))
  replace HY := hide (box_put (unhide HY) 2 (.int .i64 o) (by simp))
  replace HOA := hide ((unhide HOA).kg (grown_cel _ (w.heap.size + 1 + 1) 2 (.int .i64 o)) (by omega))
  replace HB := hide (below_sc (p := ⟨w.heap.size + 1 + 1, 2, none⟩) (v := .int .i64 o) (unhide HB) (by dsimp only; omega))
  replace HY := hide (box_put (unhide HY) 3 (.slice ap (putI t zs).length cp) (by simp))
  replace HOA := hide ((unhide HOA).kg (grown_cel _ (w.heap.size + 1 + 1) 3 (.slice ap (putI t zs).length cp)) (by omega))
  replace HB := hide (below_sc (p := ⟨w.heap.size + 1 + 1, 3, none⟩) (v := .slice ap (putI t zs).length cp) (unhide HB) (by dsimp only; omega))
  replace HY := hide (show Box _ (w.heap.size + 1 + 1) [.int .i64 s, .int .i64 l, .int .i64 o, .slice ap (putI t zs).length cp] from unhide HY)
  have y0 := (unhide HY).cell 0 rfl
  have y1 := (unhide HY).cell 1 rfl
  have y2 := (unhide HY).cell 2 rfl
  have y3 := (unhide HY).cell 3 rfl
  (try clear y0 y1 y2 y3)
  refine bodyPost_ret (v := .tuple #[gatV s l o (.slice ap (putI t zs).length cp), .bool true]) (results_ct Tryz.results7 rfl (load_gat (unhide HY))) rfl ?_
  rw [hg.1, hg.2.1, hg.2.2]
  exact ⟨_, rfl, (unhide HOA).mono (by omega), unhide HB⟩

end Go.Proofs.YtmlbphmbffkdnaaGreat
