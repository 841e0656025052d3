/-
  The walks of MonMove, whole: in the program and in the model.
-/
import Derived.Test.YtjdnengmllamcaaMova
namespace Go.Proofs.Ytjdnengmllamcaa
open Go.RowKit
set_option linter.unusedVariables false
set_option maxRecDepth 100000

theorem grown_cell2 (w : World) (g : Nat) (v : Value) : w.grownBy (w.setCell ⟨g, 0, none⟩ v) (some g) := by
  refine ⟨rfl, rfl, rfl, by simp, fun k hk hne => ?_⟩
  have hgk : g ≠ k := fun e => hne (by rw [e])
  show (w.heap.modify g _)[k]? = _
  rw [Array.getElem?_modify, if_neg hgk]
theorem grown_far {w w1 w2 : World} {row : Option Nat} {g : Nat} (h : w.grownBy w1 row) (h2 : w1.grownBy w2 (some g)) (hg : w.heap.size ≤ g) : w.grownBy w2 row :=
  ⟨h2.os.trans h.os, h2.tape.trans h.tape, h2.output.trans h.output, Nat.le_trans h.size h2.size, fun i hi hr => (h2.block i (Nat.lt_of_lt_of_le hi h.size) (fun e => by cases e; omega)).trans (h.block i hi hr)⟩

set_option maxHeartbeats 4000000 in
theorem c140 (p : List Int) (a b n : Int) (gn gf gt gm base : Nat) (ao : Option Addr) (m cap : Nat) (w : World) (hm : p.length = m) (hb : m ≤ 1048576) (hn : -9223372036854775808 ≤ n ∧ n ≤ 9223372036854775807)
    (cn : w.cell? ⟨gn, 0, none⟩ = some (.int .i64 n)) (cf : w.cell? ⟨gf, 0, none⟩ = some (.int .i64 a)) (ct : w.cell? ⟨gt, 0, none⟩ = some (.int .i64 b)) (cm : w.cell? ⟨gm, 0, none⟩ = some (.slice ao m cap))
    (hne : ∀ x, ao = some x → x.block ≠ gn ∧ x.block ≠ gf ∧ x.block ≠ gt ∧ x.block ≠ gm) (hz : ao = none → cap = 0) (ho : Own w base (.slice ao m cap) p) :
    Calls Try.prog 140 #[.slice ao m cap, .func (Fn.func 141) #[] #[.pointer (some ⟨gn, 0, none⟩), .pointer (some ⟨gf, 0, none⟩), .pointer (some ⟨gt, 0, none⟩), .pointer (some ⟨gm, 0, none⟩)]] w fun e w' =>
      e = .returned (.bool (Tm.moveOk p a b n)) ∧ Own w' base (.slice ao m cap) (Tm.monMove p a b n) ∧ w.grownBy w' (Value.slice ao m cap).ownBlock := by
  have hmf : ∀ (fn : Fn) (first cap : Array Value) (w : World), (Instr.makeFunc fn first cap).run Try.prog w = .ok (.func fn first cap) w := fun _ _ _ _ => rfl
  have hR0 := own_rowI ho
  have hao : ∀ x, ao = some x → x.block < w.heap.size := by
    intro x hx
    subst hx
    exact (ho.2.lt x.block (by simp [Value.ownBlock])).2
  have HR := hide hR0
  have HM := hide hm
  have HZ := hide hz
  have HO := hide ho
  have HNE := hide hne
  have HAO := hide hao
  have HN := hide hn
  have HC := hide (And.intro cn (And.intro cf (And.intro ct cm)))
  have hX0 := ((box_new w [.slice ao m cap] 28 (by simp [Value.oneCell'])).alloc (.cells #[.bool false] 4))
  have hX1 := box_new (w.alloc (.cells #[.slice ao m cap] 28)) [.bool false] 4 (by simp [Value.oneCell'])
  rw [show (w.alloc (.cells #[.slice ao m cap] 28)).heap.size = w.heap.size + 1 by simp] at hX1
  have HX0 := hide hX0
  have HX1 := hide hX1
  have HB0 := hide (below_al (o := .cells #[.bool false] 4) (below_a (w := w) (.cells #[.slice ao m cap] 28)))
  clear hm hz ho hne hao hn cn cf ct cm hR0 hX0 hX1
  go_enter_defers Try.func140, Try.ntmps140
  go_wp2_with fail
  refine (c139 p ao m cap _ HM.out hb (unhide HZ) ((unhide HR).bel (unhide HB0))).mono ?_
  rintro e w1 ⟨v1, rfl, ho1, hb1⟩
  obtain ⟨bo, capb, rfl, hcb, hrb, hbb⟩ := ho1.row
  rw [HM.out] at hcb ho1
  rw [HM.out]
  have hB1 := below_tr (unhide HB0) hb1
  have hx0 := ((unhide HX0).below hb1).alloc (.cells #[.slice bo m capb] 28)
  have hx1 := ((unhide HX1).below hb1).alloc (.cells #[.slice bo m capb] 28)
  have hx3 := box_new w1 [.slice bo m capb] 28 (by simp [Value.oneCell'])
  have hB2 := below_al (o := .cells #[.slice bo m capb] 28) hB1
  have hrb2 := hrb.bel (below_a (.cells #[.slice bo m capb] 28))
  have hbo : ∀ x, bo = some x → w.heap.size + 1 < x.block ∧ x.block < w1.heap.size := fun x hx => by have h1 := hbb x hx; simp at h1; omega
  have hs1 : w.heap.size + 1 < w1.heap.size := by have := hb1.size; simp at this; omega
  have H0 := hide hx0
  have H1 := hide hx1
  have H3 := hide hx3
  have HB2 := hide hB2
  have HRB := hide hrb2
  have HBO := hide hbo
  have HS1 := hide hs1
  clear ho1 hb1 hrb hbb hB1 hx0 hx1 hx3 hB2 hrb2 hbo HX0 HX1 HB0 hs1
  go_wp2_with fail
  obtain ⟨cn, cf, ct, cm⟩ := unhide HC
  refine (c141 p a b n gn gf gt gm base ao m cap _ HM.out hb HN.out (cell_bl (unhide HB2) cn) (cell_bl (unhide HB2) cf) (cell_bl (unhide HB2) ct) (cell_bl (unhide HB2) cm) (unhide HNE) ((unhide HO).bel (unhide HB2))).mono ?_
  rintro e w2 ⟨p', rfl, hl', ho2, hmv, hg2⟩
  have k0 := (unhide H0).kpt hg2 (fun e => by obtain ⟨x, hx, hb⟩ := slice_block e.symm; have := unhide HAO x hx; omega)
  have k1 := (unhide H1).kpt hg2 (fun e => by obtain ⟨x, hx, hb⟩ := slice_block e.symm; have := unhide HAO x hx; omega)
  have k3 := (unhide H3).kpt hg2 (fun e => by obtain ⟨x, hx, hb⟩ := slice_block e.symm; have := unhide HAO x hx; have := unhide HS1; omega)
  have kr := (unhide HRB).kept hg2 (fun x hx e => by obtain ⟨y, hy, hb⟩ := slice_block e.symm; have := unhide HAO y hy; have := unhide HBO x hx; omega)
  have hgw : w.grownBy w2 (Value.slice ao m cap).ownBlock := grown_tr (below_grown0 (unhide HB2) _) hg2
  have q1 := k1.cell 0 rfl
  have f1 := k1.frozen 0 rfl
  have hgs := grown_cell2 w2 (w.heap.size + 1) (.bool (Tm.moveOk p a b n))
  have hc1 : (w2.setCell ⟨w.heap.size + 1, 0, none⟩ (.bool (Tm.moveOk p a b n))).cell? ⟨w.heap.size + 1, 0, none⟩ = some (.bool (Tm.moveOk p a b n)) := World.cell?_setCell_same _ _ _ q1
  have hc0 := (k0.kpt hgs (fun e => by simp only [Option.some.injEq] at e; omega)).cell 0 rfl
  have hc3 := (k3.kpt hgs (fun e => by have := unhide HS1; simp only [Option.some.injEq] at e; omega)).cell 0 rfl
  have hkr := kr.kept hgs (fun x hx e => by have := unhide HBO x hx; simp only [Option.some.injEq] at e; omega)
  have hok := ho2.kpt hgs (fun bb hbb e => by obtain ⟨y, hy, hb⟩ := slice_block hbb; have := unhide HAO y hy; simp only [Option.some.injEq] at e; omega)
  have hgf : w.grownBy (w2.setCell ⟨w.heap.size + 1, 0, none⟩ (.bool (Tm.moveOk p a b n))) (Value.slice ao m cap).ownBlock :=
    grown_far hgw hgs (Nat.le_succ _)
  have HC1 := hide hc1
  have HC0 := hide hc0
  have HC3 := hide hc3
  have HKR := hide hkr
  have HOK := hide hok
  have HGF := hide hgf
  have HMV := hide hmv
  have HL' := hide hl'
  clear hg2 k0 k1 k3 kr hgw hgs hc1 hc0 hc3 hkr hok hgf hmv hl' ho2 H0 H1 H3 HRB cn cf ct cm
  rcases hmo : Tm.moveOk p a b n with _ | _
  · rw [hmo] at HC1 HC0 HC3 HKR HOK HGF HMV
    have HMO := hide hmo
    clear hmo
    go_wp2_with fail
    refine leaves_cons (f := 164) (args := #[.pointer (some ⟨w.heap.size + 1, 0, none⟩), .pointer (some ⟨w.heap.size, 0, none⟩), .pointer (some ⟨w1.heap.size, 0, none⟩)]) (by simp) (by simp [go_sem]) ?_
    refine (und_f p' p (w.heap.size + 1) w.heap.size w1.heap.size base ao bo m cap capb .returning _ HL'.out HM.out (unhide HC1) (unhide HC0) (unhide HC3) (unhide HOK) (unhide HKR)).mono ?_
    rintro e u' w3 ⟨rfl, rfl, hoq, hgq⟩
    have hcf := hgq.cell (unhide HC1) (fun e => by obtain ⟨x, hx, hb⟩ := slice_block e.symm; have := unhide HAO x hx; simp only at hb; omega)
    refine ⟨.bool false, ?_, ?_⟩
    · simp [results, Try.results140, go_sem, hcf]
    · exact ⟨ret_bool (unhide HMO).symm, by rw [Tm.monMove_no (unhide HMO)]; exact hoq, grown_tr (unhide HGF) hgq⟩
  · rw [hmo] at HC1 HC0 HC3 HKR HOK HGF HMV
    have HMO := hide hmo
    clear hmo
    go_wp2_with fail
    refine leaves_cons (f := 164) (args := #[.pointer (some ⟨w.heap.size + 1, 0, none⟩), .pointer (some ⟨w.heap.size, 0, none⟩), .pointer (some ⟨w1.heap.size, 0, none⟩)]) (by simp) (by simp [go_sem]) ?_
    refine (und_t p' (w.heap.size + 1) w.heap.size w1.heap.size base ao m cap .returning _ (unhide HC1) (unhide HOK)).mono ?_
    rintro e u' w3 ⟨rfl, rfl, hoq, hgq⟩
    have hcf := hgq.cell (unhide HC1) (fun e => by obtain ⟨x, hx, hb⟩ := slice_block e.symm; have := unhide HAO x hx; simp only at hb; omega)
    refine ⟨.bool true, ?_, ?_⟩
    · simp [results, Try.results140, go_sem, hcf]
    · exact ⟨ret_bool (unhide HMO).symm, by rw [← unhide HMV trivial]; exact hoq, grown_tr (unhide HGF) hgq⟩

set_option maxHeartbeats 4000000 in
theorem c76 (p : List Int) (a b n : Int) (ao : Option Addr) (m cap : Nat) (w : World) (hm : p.length = m) (hb : m ≤ 1048576) (hn : -9223372036854775808 ≤ n ∧ n ≤ 9223372036854775807) (hz : ao = none → cap = 0) (hr : Row w ao p) :
    Calls Try.prog 76 #[.slice ao m cap, .int .i64 a, .int .i64 b, .int .i64 n] w (Told2 w (Tm.monMove p a b n) (Tm.moveOk p a b n)) := by
  have hmf : ∀ (fn : Fn) (first cap : Array Value) (w : World), (Instr.makeFunc fn first cap).run Try.prog w = .ok (.func fn first cap) w := fun _ _ _ _ => rfl
  have HR := hide hr
  have HM := hide hm
  have HZ := hide hz
  have HN := hide hn
  have hA := ((box_new w [.int .i64 a] 3 (by simp [Value.oneCell'])).alloc (.cells #[.int .i64 b] 3)).alloc (.cells #[.int .i64 n] 3)
  have hBx := (box_new (w.alloc (.cells #[.int .i64 a] 3)) [.int .i64 b] 3 (by simp [Value.oneCell'])).alloc (.cells #[.int .i64 n] 3)
  rw [show (w.alloc (.cells #[.int .i64 a] 3)).heap.size = w.heap.size + 1 by simp] at hBx
  have hCx := box_new ((w.alloc (.cells #[.int .i64 a] 3)).alloc (.cells #[.int .i64 b] 3)) [.int .i64 n] 3 (by simp [Value.oneCell'])
  rw [show ((w.alloc (.cells #[.int .i64 a] 3)).alloc (.cells #[.int .i64 b] 3)).heap.size = w.heap.size + 1 + 1 by simp] at hCx
  have HA := hide hA
  have HBx := hide hBx
  have HCx := hide hCx
  have HB0 := hide (below_al (o := .cells #[.int .i64 n] 3) (below_al (o := .cells #[.int .i64 b] 3) (below_a (w := w) (.cells #[.int .i64 a] 3))))
  clear hr hm hz hn hA hBx hCx
  go_enter Try.func76, Try.ntmps76
  go_wp2_with fail
  refine (c139 p ao m cap _ HM.out hb (unhide HZ) ((unhide HR).bel (unhide HB0))).mono ?_
  rintro e w1 ⟨v1, rfl, ho1, hb1⟩
  obtain ⟨bo, capb, rfl, hcb, hrb, hbb⟩ := ho1.row
  rw [HM.out] at hcb ho1
  rw [HM.out]
  have hbz : bo = none → capb = 0 := by intro e; subst e; exact own_cap0 ho1
  have kA := ((unhide HA).below hb1).alloc (.cells #[.slice bo m capb] 28)
  have kB := ((unhide HBx).below hb1).alloc (.cells #[.slice bo m capb] 28)
  have kC := ((unhide HCx).below hb1).alloc (.cells #[.slice bo m capb] 28)
  have kM := box_new w1 [.slice bo m capb] 28 (by simp [Value.oneCell'])
  have hB2 := below_al (o := .cells #[.slice bo m capb] 28) (below_tr (unhide HB0) hb1)
  have hbo : ∀ x, bo = some x → w.heap.size + 1 + 1 < x.block ∧ x.block < w1.heap.size := fun x hx => by have h1 := hbb x hx; simp at h1; omega
  have hoW := ho1.bel (below_a (.cells #[.slice bo m capb] 28))
  have qA := kA.cell 0 rfl
  have qB := kB.cell 0 rfl
  have qC := kC.cell 0 rfl
  have qM := kM.cell 0 rfl
  have HBO := hide hbo
  have HOW := hide hoW
  have HBZ := hide hbz
  have HB2 := hide hB2
  have hge : w.heap.size ≤ ((w.alloc (.cells #[.int .i64 a] 3)).alloc (.cells #[.int .i64 b] 3)).heap.size + 1 := by simp; omega
  clear ho1 hb1 hrb hbb hbz kA kB kC kM hB2 hbo hoW HA HBx HCx
  go_wp2_with fail
  refine (c140 p a b n (w.heap.size + 1 + 1) w.heap.size (w.heap.size + 1) w1.heap.size _ bo m capb _ HM.out hb HN.out qC qA qB qM (fun x hx => by have := unhide HBO x hx; omega) (unhide HBZ) (unhide HOW)).mono ?_
  rintro e w2 ⟨rfl, ho2, hg2⟩
  have cm2 := kp_cell qM hg2 (fun x hx => by have := unhide HBO x hx; omega)
  have HO2 := hide (ho2.mono (base' := w.heap.size) (by simp; omega))
  have HB3 := hide (grown_below (unhide HB2) hg2 (fun k hk => by obtain ⟨x, hx, hxb⟩ := slice_block hk; have := unhide HBO x hx; omega))
  clear ho2 hg2 qA qB qC qM HOW
  generalize Tm.moveOk p a b n = bb at *
  go_wp2_with fail
  go_ret2
  exact ⟨_, rfl, unhide HO2, unhide HB3⟩

set_option maxHeartbeats 4000000 in
theorem c77 (p : List Int) (a b n : Int) (ao : Option Addr) (m cap : Nat) (w : World) (hm : p.length = m) (hb : m ≤ 1048576) (hn : -9223372036854775808 ≤ n ∧ n ≤ 9223372036854775807) (hz : ao = none → cap = 0) (hr : Row w ao p) :
    Calls Try.prog 77 #[.slice ao m cap, .int .i64 a, .int .i64 b, .int .i64 n] w (Told2 w (Tm.monMove p a b n) (Tm.moveOk p a b n)) := by
  obtain ⟨i0, hi, hz0, hz1, hz2⟩ := info_parts Try.info3
  have HF := hide hr.1
  have HR := hide hr
  have HM := hide hm
  have HB0 := hide (Below.refl w.heap.size w)
  obtain ⟨n1, n2⟩ := hn
  cases ao with
  | none =>
    have h0 : p = [] := row_none hr
    have hc0 := hz rfl
    have hm0 : m = 0 := by rw [← hm, h0]; rfl
    subst hc0
    subst hm0
    subst h0
    have HNT : Hid (Tm.turnOk [] a (-n) = false) := Tm.turnOk_no (by simp [Tm.monOk])
    have HE : Hid (Tm.moveOk [] a b n = false) := Tm.moveOk_no (fun e => by rw [unhide HNT] at e; exact absurd e.2.2.1 (by simp))
    clear hr hz hm
    by_cases hw : 0 ≤ n ∧ n ≤ 100000
    · have hd : decide (0 ≤ n ∧ n ≤ 100000) = true := by simpa using hw
      by_cases hab : a = b
      · have b1 : (a == b) = true := by simpa using hab
        clear hab hw
        go_enter Try.func77, Try.ntmps77
        go_wp2_with (first | (go_at_call 109; refine (c109 _ _ _ _).mono ?_; rintro e w' ⟨rfl, rfl⟩) | (at_builtin; refine wpList_append_own_none rfl _ _ 28 rfl w'.heap.size 3 i0 1 Try.underlying28 hi _ 0 [] rfl (own_empty w' w'.heap.size (Nat.le_refl _)).2 rfl ?_))
        go_ret2
        exact ⟨_, ret_lb (unhide HE).symm, by rw [Tm.monMove_no (unhide HE)]; exact own_empty _ _ (Nat.le_refl _), below_a _⟩
      · have b1 : (a == b) = false := by simpa using hab
        obtain ⟨w1, w2⟩ := hw
        clear hab
        go_enter Try.func77, Try.ntmps77
        go_wp2_with (go_at_call 109; refine (c109 _ _ _ _).mono ?_; rintro e w' ⟨rfl, rfl⟩)
        refine (c83 [] a (-n) none 0 0 _ rfl (by omega) (by omega) (fun _ => rfl) (unhide HR)).mono ?_
        rintro e w3 ⟨v3, rfl, ho3, hb3⟩
        obtain ⟨ao3, cap3, rfl, -, -, -⟩ := ho3.row
        rw [unhide HNT]
        have HB3 := hide hb3
        clear ho3 hb3
        go_wp2_with (first | (at_builtin; refine wpList_append_own_none rfl _ _ 28 rfl w3.heap.size 3 i0 1 Try.underlying28 hi _ 0 [] rfl (own_empty w3 w3.heap.size (Nat.le_refl _)).2 rfl ?_) | fail)
        go_wp2_with fail
        go_ret2
        exact ⟨_, ret_lb (unhide HE).symm, by rw [Tm.monMove_no (unhide HE)]; exact own_empty _ _ (unhide HB3).size, below_al (unhide HB3)⟩
    · have hd : decide (0 ≤ n ∧ n ≤ 100000) = false := by simpa using hw
      clear hw
      go_enter Try.func77, Try.ntmps77
      go_wp2_with (first | (go_at_call 109; refine (c109 _ _ _ _).mono ?_; rintro e w' ⟨rfl, rfl⟩) | (at_builtin; refine wpList_append_own_none rfl _ _ 28 rfl w'.heap.size 3 i0 1 Try.underlying28 hi _ 0 [] rfl (own_empty w' w'.heap.size (Nat.le_refl _)).2 rfl ?_))
      go_ret2
      exact ⟨_, ret_lb (unhide HE).symm, by rw [Tm.monMove_no (unhide HE)]; exact own_empty _ _ (Nat.le_refl _), below_a _⟩
  | some ad =>
    clear hr hz hm
    by_cases hw : 0 ≤ n ∧ n ≤ 100000
    case neg =>
      have HE : Hid (Tm.moveOk p a b n = false) := Tm.moveOk_no (fun e => hw e.1)
      have hd : decide (0 ≤ n ∧ n ≤ 100000) = false := by simpa using hw
      clear hw
      go_enter Try.func77, Try.ntmps77
      go_wp2_with (first | (go_at_call 109; refine (c109 _ _ _ _).mono ?_; rintro e w' ⟨rfl, rfl⟩) | (at_builtin; refine wpList_append_own _ rfl _ _ 28 rfl w'.heap.size 3 i0 (.int .i64 0) 1 8 Try.underlying28 hi hz0 hz1 hz2 rfl (by decide) _ _ _ rfl (own_empty w' w'.heap.size (Nat.le_refl _)).2 ad m cap (p.map (Value.int .i64)) rfl (by rw [List.length_map, HM.out, Nat.mul_one]) (row_src (row_alloc (unhide HR) (.cells #[] 3))) (ints_oneCell _ _) (by simp [maxLen]; omega) (by simp; omega) (by simp) ?_; intro v' w9 hown' hgrow _) | fail)
      have hcp := own_copy (unhide HF) (by rw [HM.out]; exact hown') hgrow
      have HO9 := hide (hcp.1.mono (unhide HB0).size)
      have HB9 := hide (below_tr (unhide HB0) hcp.2)
      clear hown' hgrow hcp
      go_wp2_with fail
      go_ret2
      exact ⟨_, ret_lb (unhide HE).symm, by rw [Tm.monMove_no (unhide HE)]; exact unhide HO9, unhide HB9⟩
    by_cases hab : a = b
    · have HE : Hid (Tm.moveOk p a b n = false) := Tm.moveOk_no (fun e => e.2.1 hab)
      have hd : decide (0 ≤ n ∧ n ≤ 100000) = true := by simpa using hw
      have b1 : (a == b) = true := by simpa using hab
      clear hab hw
      go_enter Try.func77, Try.ntmps77
      go_wp2_with (first | (go_at_call 109; refine (c109 _ _ _ _).mono ?_; rintro e w' ⟨rfl, rfl⟩) | (at_builtin; refine wpList_append_own _ rfl _ _ 28 rfl w'.heap.size 3 i0 (.int .i64 0) 1 8 Try.underlying28 hi hz0 hz1 hz2 rfl (by decide) _ _ _ rfl (own_empty w' w'.heap.size (Nat.le_refl _)).2 ad m cap (p.map (Value.int .i64)) rfl (by rw [List.length_map, HM.out, Nat.mul_one]) (row_src (row_alloc (unhide HR) (.cells #[] 3))) (ints_oneCell _ _) (by simp [maxLen]; omega) (by simp; omega) (by simp) ?_; intro v' w9 hown' hgrow _) | fail)
      have hcp := own_copy (unhide HF) (by rw [HM.out]; exact hown') hgrow
      have HO9 := hide (hcp.1.mono (unhide HB0).size)
      have HB9 := hide (below_tr (unhide HB0) hcp.2)
      clear hown' hgrow hcp
      go_wp2_with fail
      go_ret2
      exact ⟨_, ret_lb (unhide HE).symm, by rw [Tm.monMove_no (unhide HE)]; exact unhide HO9, unhide HB9⟩
    have hd : decide (0 ≤ n ∧ n ≤ 100000) = true := by simpa using hw
    have b1 : (a == b) = false := by simpa using hab
    have HAB := hide hab
    have HW := hide hw
    obtain ⟨w1, w2⟩ := hw
    clear hab
    go_enter Try.func77, Try.ntmps77
    go_wp2_with (go_at_call 109; refine (c109 _ _ _ _).mono ?_; rintro e w' ⟨rfl, rfl⟩)
    refine (c83 p a (-n) (some ad) m cap _ HM.out hb (by omega) (by simp) (unhide HR)).mono ?_
    rintro e w3 ⟨v3, rfl, ho3, hb3⟩
    obtain ⟨ao3, cap3, rfl, hcap3, hr3, -⟩ := ho3.row
    rw [Tm.monTurn_len, HM.out] at hcap3
    rw [Tm.monTurn_len, HM.out]
    have hz3 : ao3 = none → cap3 = 0 := by intro e; subst e; exact own_cap0 ho3
    have HZ3 := hide hz3
    have HR3 := hide hr3
    have HB3 := hide hb3
    have HRp3 := hide ((unhide HR).bel hb3)
    clear ho3 hb3 hr3 hz3
    rcases ht : Tm.turnOk p a (-n) with _ | _
    · have HE : Hid (Tm.moveOk p a b n = false) := Tm.moveOk_no (fun e => by rw [ht] at e; exact absurd e.2.2.1 (by simp))
      clear ht
      go_wp2_with (first | (at_builtin; refine wpList_append_own _ rfl _ _ 28 rfl w3.heap.size 3 i0 (.int .i64 0) 1 8 Try.underlying28 hi hz0 hz1 hz2 rfl (by decide) _ _ _ rfl (own_empty w3 w3.heap.size (Nat.le_refl _)).2 ad m cap (p.map (Value.int .i64)) rfl (by rw [List.length_map, HM.out, Nat.mul_one]) (row_src (row_alloc (unhide HRp3) (.cells #[] 3))) (ints_oneCell _ _) (by simp [maxLen]; omega) (by simp; omega) (by simp) ?_; intro v' w9 hown' hgrow _) | fail)
      have hcp := own_copy (unhide HF) (by rw [HM.out]; exact hown') hgrow
      have HO9 := hide (hcp.1.mono (unhide HB3).size)
      have HB9 := hide (below_tr (unhide HB3) hcp.2)
      clear hown' hgrow hcp
      go_wp2_with fail
      go_ret2
      exact ⟨_, ret_lb (unhide HE).symm, by rw [Tm.monMove_no (unhide HE)]; exact unhide HO9, unhide HB9⟩
    have hts := Tm.monTurn_of ht
    rw [hts] at HR3
    have HT := hide ht
    clear hts ht
    have HL3 : Hid ((Tm.turnSet p a (-n)).length = m) := by unfold Hid; rw [Tm.turnSet_len]; exact HM.out
    go_wp2_with fail
    refine (c83 (Tm.turnSet p a (-n)) b n ao3 m cap3 _ HL3.out hb (by omega) (unhide HZ3) (unhide HR3)).mono ?_
    rintro e w4 ⟨v4, rfl, ho4, hb4⟩
    obtain ⟨ao4, cap4, rfl, hcap4, hr4, -⟩ := ho4.row
    rw [Tm.monTurn_len, HL3.out] at hcap4
    rw [Tm.monTurn_len, HL3.out]
    have HO4 := hide (ho4.mono (unhide HB3).size)
    have HB4 := hide (below_tr (unhide HB3) hb4)
    have HRp4 := hide ((unhide HRp3).bel hb4)
    clear ho4 hb4 hr4
    rcases ht2 : Tm.turnOk (Tm.turnSet p a (-n)) b n with _ | _
    · have HE : Hid (Tm.moveOk p a b n = false) := Tm.moveOk_no (fun e => by rw [ht2] at e; exact absurd e.2.2.2 (by simp))
      clear ht2
      go_wp2_with (first | (at_builtin; refine wpList_append_own _ rfl _ _ 28 rfl w4.heap.size 3 i0 (.int .i64 0) 1 8 Try.underlying28 hi hz0 hz1 hz2 rfl (by decide) _ _ _ rfl (own_empty w4 w4.heap.size (Nat.le_refl _)).2 ad m cap (p.map (Value.int .i64)) rfl (by rw [List.length_map, HM.out, Nat.mul_one]) (row_src (row_alloc (unhide HRp4) (.cells #[] 3))) (ints_oneCell _ _) (by simp [maxLen]; omega) (by simp; omega) (by simp) ?_; intro v' w9 hown' hgrow _) | fail)
      have hcp := own_copy (unhide HF) (by rw [HM.out]; exact hown') hgrow
      have HO9 := hide (hcp.1.mono (unhide HB4).size)
      have HB9 := hide (below_tr (unhide HB4) hcp.2)
      clear hown' hgrow hcp
      go_wp2_with fail
      go_ret2
      exact ⟨_, ret_lb (unhide HE).symm, by rw [Tm.monMove_no (unhide HE)]; exact unhide HO9, unhide HB9⟩
    have HE : Hid (Tm.moveOk p a b n = true) := Tm.moveOk_iff.2 ⟨unhide HW, unhide HAB, unhide HT, ht2⟩
    have hts := Tm.monTurn_of ht2
    have HTS := hide hts
    clear ht2 hts
    go_wp2_with fail
    go_ret2
    refine ⟨_, ret_lb (unhide HE).symm, ?_, unhide HB4⟩
    rw [Tm.monMove_of (unhide HE), ← unhide HTS]
    have := unhide HO4
    rwa [Tm.monTurn_len, HL3.out] at this
end Go.Proofs.Ytjdnengmllamcaa
