/-
  The walks of MonMove: a closure over a copy that is undone by a deferred function.
-/
import Derived.Test.YtjdnengmllamcaaArow
import Derived.Test.YtjdnengmllamcaaMona
import Derived.Defers
namespace Go.Proofs.Ytjdnengmllamcaa
open Go.RowKit
set_option linter.unusedVariables false
set_option maxRecDepth 100000

theorem grown_row (w : World) (g : Nat) (c : Array Value) : w.grownBy (w.setRow g c) (some g) := by
  refine ⟨rfl, rfl, rfl, by simp [World.setRow], fun k hk hne => ?_⟩
  exact setRow_other w g k c (fun e => hne (by rw [e]))
theorem kp_cell {w w' : World} {ao : Option Addr} {m cap g : Nat} {v : Value} (h : w.cell? ⟨g, 0, none⟩ = some v) (hg : w.grownBy w' (Value.slice ao m cap).ownBlock) (hne : ∀ a, ao = some a → a.block ≠ g) : w'.cell? ⟨g, 0, none⟩ = some v :=
  hg.cell (a := ⟨g, 0, none⟩) h (fun e => by obtain ⟨a, ha, hb⟩ := slice_block e.symm; exact hne a ha hb)
/-- one list of numbers, copied over another one that is the call's own -/
theorem own_over {w : World} {base g m cap : Nat} {p q : List Int} (h : Own w base (.slice (some ⟨g, 0, none⟩) m cap) p) (hm : p.length = m) (hq : q.length = m) (hf : Fits q) :
    ∃ cur, w.heap[g]? = some (.cells cur 3 (0, 0)) ∧ m ≤ cur.size ∧ Own (w.setRow g (cur.toList.take 0 ++ q.map (Value.int .i64) ++ cur.toList.drop (0 + (q.map (Value.int .i64)).length)).toArray) base (.slice (some ⟨g, 0, none⟩) m cap) q := by
  subst hm
  obtain ⟨f, h1, h2⟩ := h
  rcases h2 with ⟨hv, -⟩ | ⟨g', cap', cur, hv, hb, hh, hnc, hcm, hcs, htk⟩
  · cases hv
  · cases hv
    refine ⟨cur, hh, by omega, hf, by simp, Or.inr ⟨g, cap, _, by rw [hq], hb, setRow_heap w g cur _ 3 _ hh, by omega, hcm, ?_, ?_⟩⟩
    · simp; omega
    · simp [hq]

set_option maxHeartbeats 2000000 in
theorem c141 (p : List Int) (a b n : Int) (gn gf gt gm base : Nat) (ao : Option Addr) (m cap : Nat) (w : World) (hm : p.length = m) (hb : m ≤ 1048576) (hn : -9223372036854775808 ≤ n ∧ n ≤ 9223372036854775807)
    (cn : w.cell? ⟨gn, 0, none⟩ = some (.int .i64 n)) (cf : w.cell? ⟨gf, 0, none⟩ = some (.int .i64 a)) (ct : w.cell? ⟨gt, 0, none⟩ = some (.int .i64 b)) (cm : w.cell? ⟨gm, 0, none⟩ = some (.slice ao m cap))
    (hne : ∀ x, ao = some x → x.block ≠ gn ∧ x.block ≠ gf ∧ x.block ≠ gt ∧ x.block ≠ gm) (ho : Own w base (.slice ao m cap) p) :
    Calls Try.prog 141 #[.pointer (some ⟨gn, 0, none⟩), .pointer (some ⟨gf, 0, none⟩), .pointer (some ⟨gt, 0, none⟩), .pointer (some ⟨gm, 0, none⟩)] w fun e w' =>
      ∃ p' : List Int, e = .returned (.bool (Tm.moveOk p a b n)) ∧ p'.length = m ∧ Own w' base (.slice ao m cap) p' ∧ (Tm.moveOk p a b n = true → p' = Tm.monMove p a b n) ∧ w.grownBy w' (Value.slice ao m cap).ownBlock := by
  have HO := hide ho
  have HM := hide hm
  have HNE := hide hne
  have HMV := hide (Tm.moveOk_eq (p := p) (a := a) (b := b) (n := n))
  obtain ⟨n1, n2⟩ := hn
  clear ho hm hne
  by_cases h0 : 0 ≤ n
  case neg =>
    have HE : Hid (Tm.moveOk p a b n = false) := by unfold Hid; rw [unhide HMV, decide_eq_false_iff_not]; exact fun e => h0 e.1
    have d0 : decide (0 ≤ n) = false := by simpa using h0
    clear h0
    go_enter Try.func141, Try.ntmps141
    go_wp2_with fail
    go_ret
    exact ⟨p, ret_bool (unhide HE).symm, HM.out, unhide HO, (fun e => by rw [unhide HE] at e; cases e), grown_rf _ _⟩
  by_cases h1 : a = b
  · have HE : Hid (Tm.moveOk p a b n = false) := by unfold Hid; rw [unhide HMV, decide_eq_false_iff_not]; exact fun e => e.2.1 h1
    have d1 : (a != b) = false := by rw [bne_eq_false_iff_eq]; exact h1
    clear h1
    go_enter Try.func141, Try.ntmps141
    go_wp2_with fail
    go_ret
    exact ⟨p, ret_bool (unhide HE).symm, HM.out, unhide HO, (fun e => by rw [unhide HE] at e; cases e), grown_rf _ _⟩
  have d1 : (a != b) = true := by rw [bne_iff_ne]; exact h1
  have H1 := hide h1
  clear h1
  go_enter Try.func141, Try.ntmps141
  go_wp2_with fail
  refine (c142 p a (-n) base ao m cap _ HM.out hb (by omega) (unhide HO)).mono ?_
  rintro e w1 ⟨rfl, ho1, hg1⟩
  have cn1 := kp_cell cn hg1 (fun x hx => (unhide HNE x hx).1)
  have ct1 := kp_cell ct hg1 (fun x hx => (unhide HNE x hx).2.2.1)
  have cm1 := kp_cell cm hg1 (fun x hx => (unhide HNE x hx).2.2.2)
  have HO1 := hide ho1
  have HG1 := hide hg1
  clear ho1 hg1 cn cf ct cm
  rcases ht : Tm.turnOk p a (-n) with _ | _
  · have HE : Hid (Tm.moveOk p a b n = false) := by unfold Hid; rw [unhide HMV, decide_eq_false_iff_not]; exact fun e => by rw [ht] at e; exact absurd e.2.2.1 (by simp)
    have hp := Tm.monTurn_no ht
    rw [hp] at HO1
    clear ht hp
    go_wp2_with fail
    go_ret
    exact ⟨p, ret_bool (unhide HE).symm, HM.out, unhide HO1, (fun e => by rw [unhide HE] at e; cases e), unhide HG1⟩
  have hp := Tm.monTurn_of ht
  rw [hp] at HO1
  have HT := hide ht
  have HL1 : Hid ((Tm.turnSet p a (-n)).length = m) := by unfold Hid; rw [Tm.turnSet_len]; exact HM.out
  clear ht hp
  go_wp2_with fail
  refine (c142 (Tm.turnSet p a (-n)) b n base ao m cap _ HL1.out hb (by omega) (unhide HO1)).mono ?_
  rintro e w2 ⟨rfl, ho2, hg2⟩
  have HG2 := hide (grown_tr (unhide HG1) hg2)
  have HO2 := hide ho2
  have HL2 : Hid ((Tm.monTurn (Tm.turnSet p a (-n)) b n).length = m) := by unfold Hid; rw [Tm.monTurn_len]; exact HL1.out
  have HE : Hid (Tm.moveOk p a b n = Tm.turnOk (Tm.turnSet p a (-n)) b n) := by
    unfold Hid; rw [unhide HMV, Bool.eq_iff_iff, decide_eq_true_iff]
    exact ⟨fun e => e.2.2.2, fun e => ⟨h0, unhide H1, unhide HT, e⟩⟩
  clear ho2 hg2 cn1 ct1 cm1
  generalize hbb : Tm.turnOk (Tm.turnSet p a (-n)) b n = bb at *
  have HBB := hide hbb
  clear hbb
  go_wp2_with fail
  go_ret
  refine ⟨_, ret_bool (unhide HE).symm, unhide HL2, unhide HO2, fun e => ?_, unhide HG2⟩
  rw [Tm.monMove_of e]
  rw [unhide HE] at e
  exact Tm.monTurn_of ((unhide HBB).trans e)

/-- what the deferred function leaves: the list as it is, or as it was -/
def Undone (w : World) (base : Nat) (ao : Option Addr) (m cap : Nat) (q : List Int) (u : FrameMode) (e : Ending) (u' : FrameMode) (w' : World) : Prop :=
  u' = u ∧ (e = .returned (.tuple #[]) ∧ Own w' base (.slice ao m cap) q ∧ w.grownBy w' (Value.slice ao m cap).ownBlock)

set_option maxHeartbeats 1000000 in
theorem und_t (p : List Int) (g1 g0 g3 base : Nat) (ao : Option Addr) (m cap : Nat) (u : FrameMode) (w : World) (c1 : w.cell? ⟨g1, 0, none⟩ = some (.bool true)) (ho : Own w base (.slice ao m cap) p) :
    CallsD Try.prog 164 #[.pointer (some ⟨g1, 0, none⟩), .pointer (some ⟨g0, 0, none⟩), .pointer (some ⟨g3, 0, none⟩)] u w (Undone w base ao m cap p u) := by
  have HO := hide ho
  clear ho
  go_enter_d Try.func164, Try.ntmps164
  go_wp2_with fail
  go_end0
  exact ⟨rfl, unhide HO, grown_rf _ _⟩

set_option maxHeartbeats 2000000 in
theorem und_f (p q : List Int) (g1 g0 g3 base : Nat) (ao bo : Option Addr) (m cap cap' : Nat) (u : FrameMode) (w : World) (hp : p.length = m) (hq : q.length = m) (c1 : w.cell? ⟨g1, 0, none⟩ = some (.bool false)) (c0 : w.cell? ⟨g0, 0, none⟩ = some (.slice ao m cap)) (c3 : w.cell? ⟨g3, 0, none⟩ = some (.slice bo m cap'))
    (ho : Own w base (.slice ao m cap) p) (hr : Row w bo q) :
    CallsD Try.prog 164 #[.pointer (some ⟨g1, 0, none⟩), .pointer (some ⟨g0, 0, none⟩), .pointer (some ⟨g3, 0, none⟩)] u w (Undone w base ao m cap q u) := by
  have hinf : (Try.prog.info? 3).map (·.size) = some 1 := by kernel_rfl
  by_cases h0 : m = 0
  · subst h0
    have e1 : p = [] := List.eq_nil_of_length_eq_zero hp
    have e2 : q = [] := List.eq_nil_of_length_eq_zero hq
    subst e1
    subst e2
    have HO := hide ho
    clear ho hr hp hq
    go_enter_d Try.func164, Try.ntmps164
    go_wp2_with (first | (refine wpList_copy_nothing rfl _ _ 28 28 rfl 3 Try.underlying28 hinf ao bo 0 cap 0 cap' rfl rfl rfl ?_))
    go_end0
    exact ⟨rfl, unhide HO, grown_rf _ _⟩
  · obtain ⟨g, rfl⟩ := own_ne ho (by intro e; subst e; exact h0 hp.symm)
    obtain ⟨cur, hh, hsz, how⟩ := own_over ho hp hq hr.1
    obtain ⟨bb, off, rfl, hcs⟩ := hr.2 (by intro e; subst e; exact h0 hq.symm)
    have HSRC := hide (row_src hr)
    have HOW := hide how
    have HH := hide hh
    have HQ := hide hq
    clear ho hr hp hq how hh hcs h0
    go_enter_d Try.func164, Try.ntmps164
    go_wp2_with (first | (refine wpList_copy_rowS rfl _ _ 28 28 rfl 3 1 Try.underlying28 hinf g 0 m cap ⟨bb, off, none⟩ m cap' rfl rfl cur 3 (unhide HH) (q.map (Value.int .i64)) (by rw [List.length_map, HQ.out]; simp) (unhide HSRC) (by rw [List.length_map, HQ.out]; omega) (ints_oneCell _ _) ?_))
    go_end0
    exact ⟨rfl, by simpa using unhide HOW, grown_row _ _ _⟩
end Go.Proofs.Ytjdnengmllamcaa
