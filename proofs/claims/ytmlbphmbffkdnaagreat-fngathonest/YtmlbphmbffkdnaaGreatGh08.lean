/-
  Texts of the proof, what it needs of them: Side.
-/
import Derived.Deep.RegionWith
import Derived.LoopIn
import Derived.LoopNIn
import Derived.Maps.AppendAt
import Derived.OwnWalkIn
import Derived.RangeFuncBox
import Derived.RangeFuncLeaves
import Derived.Shelf.Abstract
import Derived.TacticsInMore
import Derived.Test.YtmlbphmbffkdnaaGreatGh07
namespace Go.Proofs.YtmlbphmbffkdnaaGreat
open Go.RowKit Go.Shelf
set_option linter.unusedVariables false

set_option maxHeartbeats 1000000 in
theorem c101 (p pl pr : Nat) (c a : Int) (l : Bool) (w : World) (h2 : w.cell? ⟨p, 2, none⟩ = some (.pointer (some ⟨pl, 0, none⟩))) (h3 : w.cell? ⟨p, 3, none⟩ = some (.pointer (some ⟨pr, 0, none⟩))) :
    Calls Tryz.prog 101 #[.pointer (some ⟨p, 0, none⟩), .agg #[.int .i64 c, .int .i64 a, .bool l]] w fun e w' => e = .returned (.tuple #[.pointer (some ⟨if l = true then pl else pr, 0, none⟩), .pointer (some ⟨if l = true then pr else pl, 0, none⟩)]) ∧ Below w.heap.size w w' := by
  have hbW : Below w.heap.size w (w.alloc (.cells #[.int .i64 c, .int .i64 a, .bool l] 120)) := (Below.refl _ _).alloc (Nat.le_refl _) _
  have G2 := hide (cell_below hbW h2)
  have G3 := hide (cell_below hbW h3)
  have HB := hide hbW
  clear h2 h3 hbW
  cases l
  · go_enter Tryz.func101, Tryz.ntmps101
    go_wp2_with fail
    generalize w.alloc (.cells #[.int .i64 c, .int .i64 a, .bool false] 120) = W at *
    have g2 := unhide G2
    have g3 := unhide G3
    go_quiet (fail)
    go_wp2_with fail
    go_ret2
    exact ⟨rfl, below_drewN (unhide HB) _⟩
  · go_enter Tryz.func101, Tryz.ntmps101
    go_wp2_with fail
    generalize w.alloc (.cells #[.int .i64 c, .int .i64 a, .bool true] 120) = W at *
    have g2 := unhide G2
    have g3 := unhide G3
    go_quiet (fail)
    go_wp2_with fail
    go_ret2
    exact ⟨rfl, below_drewN (unhide HB) _⟩

/-- what lies below block n₀, but for block D, is as it was -/
structure Kb (n₀ D : Nat) (w w' : World) : Prop where
  size : w.heap.size ≤ w'.heap.size
  block : ∀ k, k < n₀ → k ≠ D → w'.heap[k]? = w.heap[k]?
theorem Kb.refl (n₀ D : Nat) (w : World) : Kb n₀ D w w := ⟨Nat.le_refl _, fun _ _ _ => rfl⟩
theorem Kb.trans {n₀ D : Nat} {a b c : World} (h : Kb n₀ D a b) (k : Kb n₀ D b c) : Kb n₀ D a c := ⟨Nat.le_trans h.size k.size, fun i hi hd => (k.block i hi hd).trans (h.block i hi hd)⟩
theorem Kb.of {n₀ D : Nat} {a b : World} (h : Below n₀ a b) : Kb n₀ D a b := ⟨h.size, fun i hi _ => h.block i hi⟩
theorem Kb.cell {n₀ D : Nat} {w w' : World} (h : Kb n₀ D w w') {p : Addr} (hp : p.block < n₀) (hd : p.block ≠ D) : w'.cell? p = w.cell? p := World.cell?_of_block (w := w) (h.block p.block hp hd)

/-- a tree in memory that lies below block n₀, and not in block D -/
def TreeLo (n₀ D : Nat) : Nat → World → Nat → List Int → Prop
  | 0, _, _, _ => False
  | f + 1, w, p, l => (p < n₀ ∧ p ≠ D) ∧ w.cell? ⟨p, 0, none⟩ = some (.int .i64 (Tm.root l)) ∧ w.cell? ⟨p, 1, none⟩ = some (.int .i64 l.length) ∧
      (2 ≤ l.length → ∃ pl pr, w.cell? ⟨p, 2, none⟩ = some (.pointer (some ⟨pl, 0, none⟩)) ∧ w.cell? ⟨p, 3, none⟩ = some (.pointer (some ⟨pr, 0, none⟩)) ∧ TreeLo n₀ D f w pl (l.take (Tm.sp l)) ∧ TreeLo n₀ D f w pr (l.drop (Tm.sp l)))
theorem box_one {W : World} {B : Nat} {t : TypeId} {v : Value} (h : Boxed W B t v) : W.cell? ⟨B, 1, none⟩ = none := by
  simp [World.cell?, show W.heap[B]? = _ from h]
theorem TreeLo.of {w : World} {D : Nat} {t : TypeId} {v : Value} (hD : Boxed w D t v) : ∀ (f p : Nat) (l : List Int), TreeAt f w p l → TreeLo w.heap.size D f w p l := by
  intro f
  induction f with
  | zero => intro p l h; exact h
  | succ f ih =>
    intro p l h
    obtain ⟨h0, h1, h2⟩ := h
    refine ⟨⟨World.block_lt_of_cell? w _ h0, ?_⟩, h0, h1, fun hl => ?_⟩
    · intro e
      rw [e, box_one hD] at h1
      cases h1
    · obtain ⟨pl, pr, h3, h4, h5, h6⟩ := h2 hl
      exact ⟨pl, pr, h3, h4, ih _ _ h5, ih _ _ h6⟩
theorem TreeLo.mono {n₀ n₁ D : Nat} {w : World} (hn : n₀ ≤ n₁) : ∀ (f p : Nat) (l : List Int), TreeLo n₀ D f w p l → TreeLo n₁ D f w p l := by
  intro f
  induction f with
  | zero => intro p l h; exact h
  | succ f ih =>
    intro p l h
    obtain ⟨h, h0, h1, h2⟩ := h
    refine ⟨⟨Nat.lt_of_lt_of_le h.1 hn, h.2⟩, h0, h1, fun hl => ?_⟩
    obtain ⟨pl, pr, h3, h4, h5, h6⟩ := h2 hl
    exact ⟨pl, pr, h3, h4, ih _ _ h5, ih _ _ h6⟩
theorem TreeLo.below {n₀ D : Nat} {w w' : World} (hb : Kb n₀ D w w') : ∀ (f p : Nat) (l : List Int), TreeLo n₀ D f w p l → TreeLo n₀ D f w' p l := by
  intro f
  induction f with
  | zero => intro p l h; exact h
  | succ f ih =>
    intro p l h
    obtain ⟨h, h0, h1, h2⟩ := h
    refine ⟨h, (hb.cell (p := ⟨p, 0, none⟩) h.1 h.2).trans h0, (hb.cell (p := ⟨p, 1, none⟩) h.1 h.2).trans h1, fun hl => ?_⟩
    obtain ⟨pl, pr, h3, h4, h5, h6⟩ := h2 hl
    exact ⟨pl, pr, (hb.cell (p := ⟨p, 2, none⟩) h.1 h.2).trans h3, (hb.cell (p := ⟨p, 3, none⟩) h.1 h.2).trans h4, ih _ _ h5, ih _ _ h6⟩
theorem TreeLo.root {n₀ D f : Nat} {w : World} {p : Nat} {l : List Int} (h : TreeLo n₀ D f w p l) : p < n₀ ∧ w.cell? ⟨p, 0, none⟩ = some (.int .i64 (Tm.root l)) := by
  cases f with
  | zero => exact h.elim
  | succ f => exact ⟨h.1.1, h.2.1⟩

theorem wide_room {m m' : Nat} {P : Program} {l : Nat} {args : Array Value} {W : World} {R : Ending → World → Prop} (h : YieldAt Fence.wide m P l args W R) : YieldAt Fence.wide m' P l args W R := by
  obtain ⟨fn, tmps, assign, body, hy, hR⟩ := h
  exact ⟨fn, tmps, assign, body, hy, hR.1, fun c cs _ => hR.2 c cs (fun d h => by cases h)⟩

/-- how the iterator tells: all has come, or a beginning, a round having said that no more is wanted -/
def Tells (J Jx : List Int → World → Prop) (n₀ D : Nat) (pre ps : List Int) (W : World) (e : Ending) (W' : World) : Prop :=
  (e = .returned (.bool true) ∧ J (pre ++ ps) W' ∧ Kb n₀ D W W') ∨ (e = .returned (.bool false) ∧ ∃ q, q <+: ps ∧ Jx (pre ++ q) W')

attribute [local go_sem] Oper.semAt_some

set_option maxRecDepth 100000 in
set_option maxHeartbeats 1000000 in
theorem c114 (l n₀ D N : Nat) (J Jx : List Int → World → Prop) (hJ : ∀ s W W', J s W → W.grownBy W' none → J s W')
    (hY : ∀ m pre x W, J pre W → pre.length < N → YieldAt Fence.wide m Tryz.prog l #[.int .i64 x] W fun e W' =>
      (e = .returned (.bool true) ∧ J (pre ++ [x]) W' ∧ Kb n₀ D W W') ∨ (e = .returned (.bool false) ∧ Jx (pre ++ [x]) W')) (f : Nat) :
    ∀ (zs : List Int) (i n p : Nat) (pre : List Int) (W : World), zs.length ≤ 40 → i < zs.length → TreeLo n₀ D f W p zs → n₀ ≤ W.heap.size → J pre W → pre.length + (Tm.prf zs i).length ≤ N →
      CallsIn Fence.wide n Tryz.prog 114 #[.pointer (some ⟨p, 0, none⟩), .int .i64 i, .func (.yield l) #[] #[]] W (Tells J Jx n₀ D pre (Tm.prf zs i) W) := by
  induction f with
  | zero => intro zs i n p pre W h40 hi ht; exact ht.elim
  | succ f ih =>
    intro zs i n p pre W h40 hi ht hn0 hj hN
    obtain ⟨hp, h0, h1, hkids⟩ := ht
    have hdd : ∀ k : Nat, (Fence.wide.depth.isSome = true → 1 ≤ k) := fun k h => by cases h
    by_cases h2 : (zs.length : Int) < 2
    · have HU := hide (Tm.prf_one (l := zs) (i := i) (by omega))
      have HJ := hide hj
      clear hkids ih hY hJ hj hN
      refine callsIn_of_wp Tryz.func114 rfl trivial ?_ rfl
      simp only [Tryz.ntmps114, List.size_toArray, List.length_cons, List.length_nil, Nat.reduceAdd, Nat.reduceSub, Array.replicate_succ, Array.replicate_zero, List.push_toArray, List.append_toArray, List.nil_append, List.cons_append]
      gi_wp2
      go_ret
      exact .inl ⟨rfl, by rw [unhide HU, List.append_nil]; exact unhide HJ, Kb.refl _ _ _⟩
    · obtain ⟨pl, pr, h3, h4, hl, hr⟩ := hkids (by omega)
      have hs := Tm.sp_bd (l := zs) (by omega) h40
      have hsi := Tm.sp_int (l := zs) (by omega) h40
      obtain ⟨s1, s2, s3⟩ := hs
      by_cases hil : i < Tm.sp zs
      · have HU := hide (Tm.prf_left (l := zs) (i := i) (by omega) h40 hil)
        have HS : Hid (stepOf zs.length i = .agg #[.int .i64 (Tm.sp zs), .int .i64 i, .bool true]) := by unfold Hid stepOf; rw [hsi, if_pos (by omega)]
        have hJH := hide hJ
        have hYH := hide hY
        have IH := hide ih
        have HL := hide hl
        have HR := hide hr
        have HJ := hide hj
        have hpl : (Tm.prf zs i).length = (Tm.prf (zs.take (Tm.sp zs)) i).length + 1 := by rw [unhide HU, List.length_append, List.length_singleton]
        have hlt : (zs.take (Tm.sp zs)).length = Tm.sp zs := by rw [List.length_take]; omega
        have HLT := hide hlt
        rw [hpl] at hN
        clear ih hY hJ hj hl hr hpl hlt hsi hkids
        generalize zs.take (Tm.sp zs) = lt at *
        generalize zs.drop (Tm.sp zs) = rt at *
        generalize Tm.sp zs = s at *
        refine callsIn_of_wp Tryz.func114 rfl trivial ?_ rfl
        simp only [Tryz.ntmps114, List.size_toArray, List.length_cons, List.length_nil, Nat.reduceAdd, Nat.reduceSub, Array.replicate_succ, Array.replicate_zero, List.push_toArray, List.append_toArray, List.nil_append, List.cons_append]
        gi_wp2_with fail
        refine ⟨trivial, hdd _, ?_⟩
        refine (callsIn_wide.2 (c98 _ _ _ (by omega) (by omega) (by omega) (by omega))).mono ?_
        rintro e w1 ⟨rfl, hb1⟩
        rw [unhide HS]
        have hb2 : Below W.heap.size W (w1.alloc (.cells #[.int .i64 s, .int .i64 i, .bool true] 120)) := hb1.alloc hb1.size _
        have A1 : Hid ((w1.alloc (.cells #[.int .i64 s, .int .i64 i, .bool true] 120)).cell? ⟨w1.heap.size, 1, none⟩ = some (.int .i64 i)) := by unfold Hid; rw [World.cell?_alloc_new]; rfl
        have H3 := hide (cell_below hb2 h3)
        have H4 := hide (cell_below hb2 h4)
        have HB2 := hide hb2
        clear hb1 hb2 h0 h1 h3 h4
        gi_wp2_with fail
        refine ⟨trivial, hdd _, ?_⟩
        generalize w1.alloc (.cells #[.int .i64 s, .int .i64 i, .bool true] 120) = W2 at *
        generalize w1.heap.size = B at *
        refine (callsIn_wide.2 (c101 p pl pr _ _ true _ (unhide H3) (unhide H4))).mono ?_
        rintro e w3 ⟨rfl, hb3⟩
        simp only [if_true]
        have a1 := cell_below hb3 (unhide A1)
        have hb4 := below_then (unhide HB2) hb3
        have hbn : Kb n₀ D W w3 := Kb.of (hb4.mono hn0)
        have hj3 := unhide hJH _ _ _ (unhide HJ) (grown_of_below hb4)
        have hn3 : n₀ ≤ w3.heap.size := Nat.le_trans hn0 hb4.size
        have ih3 := unhide IH lt i (n - 1) pl pre w3 (by have := unhide HLT; omega) (by have := unhide HLT; omega) ((unhide HL).below hbn _ _ _) hn3 hj3 (by omega)
        have IH3 := hide ih3
        have HRr := hide ((unhide HR).below hbn _ _ _)
        have HBN := hide hbn
        clear hb3 hb4 hbn hj3 hn3 ih3 A1 H3 H4 HB2
        gi_wp2_with fail
        refine ⟨trivial, hdd _, ?_⟩
        refine (unhide IH3).mono ?_
        rintro e w4 (⟨rfl, hj4, hb4⟩ | ⟨rfl, q, hq, hx⟩)
        · have hr4 := ((unhide HRr).below hb4 _ _ _).root
          obtain ⟨hr5, hr6⟩ := hr4
          obtain ⟨fn, tmps, assign, body, hy, hR⟩ := unhide hYH (n - 1) _ (Tm.root rt) w4 hj4 (by rw [List.length_append]; omega)
          have HB4 := hide ((unhide HBN).trans hb4)
          have HRr := hide hR
          clear hR hj4 hb4
          gi_wp2_with fail
          refine ⟨hdd _, ?_⟩
          refine (unhide HRr).mono ?_
          rintro e w5 (⟨rfl, hj5, hb5⟩ | ⟨rfl, hx5⟩)
          · have HJ5 := hide hj5
            have HB5 := hide ((unhide HB4).trans hb5)
            clear hj5 hb5
            gi_wp2_with fail
            go_ret
            exact .inl ⟨rfl, by rw [unhide HU, ← List.append_assoc]; exact unhide HJ5, unhide HB5⟩
          · have HX5 := hide hx5
            clear hx5
            gi_wp2_with fail
            go_ret
            exact .inr ⟨rfl, Tm.prf lt i ++ [Tm.root rt], by rw [unhide HU]; exact List.prefix_refl _, by rw [← List.append_assoc]; exact unhide HX5⟩
        · have HX := hide hx
          have HQ := hide hq
          clear hx hq
          gi_wp2_with fail
          refine ⟨fun _ h => (by cases h), ?_⟩
          gi_wp2_with fail
          go_ret
          exact .inr ⟨rfl, q, by rw [unhide HU]; exact (unhide HQ).trans (List.prefix_append _ _), unhide HX⟩
      · have HU := hide (Tm.prf_right (l := zs) (i := i) (by omega) h40 hil)
        have HS : Hid (stepOf zs.length i = .agg #[.int .i64 ((zs.length - Tm.sp zs : Nat) : Int), .int .i64 ((i - Tm.sp zs : Nat) : Int), .bool false]) := by unfold Hid stepOf; rw [hsi, if_neg (by omega), show (zs.length : Int) - (Tm.sp zs : Int) = ((zs.length - Tm.sp zs : Nat) : Int) by omega, show (i : Int) - (Tm.sp zs : Int) = ((i - Tm.sp zs : Nat) : Int) by omega]
        have hJH := hide hJ
        have hYH := hide hY
        have IH := hide ih
        have HL := hide hl
        have HR := hide hr
        have HJ := hide hj
        have hpl : (Tm.prf zs i).length = (Tm.prf (zs.drop (Tm.sp zs)) (i - Tm.sp zs)).length + 1 := by rw [unhide HU, List.length_append, List.length_singleton]
        have hlt : (zs.drop (Tm.sp zs)).length = zs.length - Tm.sp zs := by rw [List.length_drop]
        have HLT := hide hlt
        rw [hpl] at hN
        clear ih hY hJ hj hl hr hpl hlt hsi hkids
        generalize zs.take (Tm.sp zs) = lt at *
        generalize zs.drop (Tm.sp zs) = rt at *
        generalize Tm.sp zs = s at *
        refine callsIn_of_wp Tryz.func114 rfl trivial ?_ rfl
        simp only [Tryz.ntmps114, List.size_toArray, List.length_cons, List.length_nil, Nat.reduceAdd, Nat.reduceSub, Array.replicate_succ, Array.replicate_zero, List.push_toArray, List.append_toArray, List.nil_append, List.cons_append]
        gi_wp2_with fail
        refine ⟨trivial, hdd _, ?_⟩
        refine (callsIn_wide.2 (c98 _ _ _ (by omega) (by omega) (by omega) (by omega))).mono ?_
        rintro e w1 ⟨rfl, hb1⟩
        rw [unhide HS]
        have hb2 : Below W.heap.size W (w1.alloc (.cells #[.int .i64 ((zs.length - s : Nat) : Int), .int .i64 ((i - s : Nat) : Int), .bool false] 120)) := hb1.alloc hb1.size _
        have A1 : Hid ((w1.alloc (.cells #[.int .i64 ((zs.length - s : Nat) : Int), .int .i64 ((i - s : Nat) : Int), .bool false] 120)).cell? ⟨w1.heap.size, 1, none⟩ = some (.int .i64 ((i - s : Nat) : Int))) := by unfold Hid; rw [World.cell?_alloc_new]; rfl
        have H3 := hide (cell_below hb2 h3)
        have H4 := hide (cell_below hb2 h4)
        have HB2 := hide hb2
        clear hb1 hb2 h0 h1 h3 h4
        gi_wp2_with fail
        refine ⟨trivial, hdd _, ?_⟩
        generalize w1.alloc (.cells #[.int .i64 ((zs.length - s : Nat) : Int), .int .i64 ((i - s : Nat) : Int), .bool false] 120) = W2 at *
        generalize w1.heap.size = B at *
        refine (callsIn_wide.2 (c101 p pl pr _ _ false _ (unhide H3) (unhide H4))).mono ?_
        rintro e w3 ⟨rfl, hb3⟩
        simp only [Bool.false_eq_true, if_false]
        have a1 := cell_below hb3 (unhide A1)
        have hb4 := below_then (unhide HB2) hb3
        have hbn : Kb n₀ D W w3 := Kb.of (hb4.mono hn0)
        have hj3 := unhide hJH _ _ _ (unhide HJ) (grown_of_below hb4)
        have hn3 : n₀ ≤ w3.heap.size := Nat.le_trans hn0 hb4.size
        have ih3 := unhide IH rt (i - s) (n - 1) pr pre w3 (by have := unhide HLT; omega) (by have := unhide HLT; omega) ((unhide HR).below hbn _ _ _) hn3 hj3 (by omega)
        have IH3 := hide ih3
        have HRr := hide ((unhide HL).below hbn _ _ _)
        have HBN := hide hbn
        clear hb3 hb4 hbn hj3 hn3 ih3 A1 H3 H4 HB2
        gi_wp2_with fail
        refine ⟨trivial, hdd _, ?_⟩
        refine (unhide IH3).mono ?_
        rintro e w4 (⟨rfl, hj4, hb4⟩ | ⟨rfl, q, hq, hx⟩)
        · have hr4 := ((unhide HRr).below hb4 _ _ _).root
          obtain ⟨hr5, hr6⟩ := hr4
          obtain ⟨fn, tmps, assign, body, hy, hR⟩ := unhide hYH (n - 1) _ (Tm.root lt) w4 hj4 (by rw [List.length_append]; omega)
          have HB4 := hide ((unhide HBN).trans hb4)
          have HRr := hide hR
          clear hR hj4 hb4
          gi_wp2_with fail
          refine ⟨hdd _, ?_⟩
          refine (unhide HRr).mono ?_
          rintro e w5 (⟨rfl, hj5, hb5⟩ | ⟨rfl, hx5⟩)
          · have HJ5 := hide hj5
            have HB5 := hide ((unhide HB4).trans hb5)
            clear hj5 hb5
            gi_wp2_with fail
            go_ret
            exact .inl ⟨rfl, by rw [unhide HU, ← List.append_assoc]; exact unhide HJ5, unhide HB5⟩
          · have HX5 := hide hx5
            clear hx5
            gi_wp2_with fail
            go_ret
            exact .inr ⟨rfl, Tm.prf rt (i - s) ++ [Tm.root lt], by rw [unhide HU]; exact List.prefix_refl _, by rw [← List.append_assoc]; exact unhide HX5⟩
        · have HX := hide hx
          have HQ := hide hq
          clear hx hq
          gi_wp2_with fail
          refine ⟨fun _ h => (by cases h), ?_⟩
          gi_wp2_with fail
          go_ret
          exact .inr ⟨rfl, q, by rw [unhide HU]; exact (unhide HQ).trans (List.prefix_append _ _), unhide HX⟩
end Go.Proofs.YtmlbphmbffkdnaaGreat
namespace Go.Proofs.YtmlbphmbffkdnaaGreat
open Go.RowKit Go.Shelf
set_option linter.unusedVariables false
attribute [local go_sem] Oper.semAt_some

set_option maxRecDepth 100000 in
set_option maxHeartbeats 1000000 in
theorem c113 (l n₀ D Bt Bi n : Nat) (zs : List Int) (i p f : Nat) (J Jx : List Int → World → Prop) (hJ : ∀ s W W', J s W → W.grownBy W' none → J s W')
    (hY : ∀ pre x W, J pre W → pre.length < (Tm.prf zs i).length → YieldAt Fence.wide (n - 1) Tryz.prog l #[.int .i64 x] W fun e W' =>
      (e = .returned (.bool true) ∧ J (pre ++ [x]) W' ∧ Kb n₀ D W W') ∨ (e = .returned (.bool false) ∧ Jx (pre ++ [x]) W'))
    (W : World) (h40 : zs.length ≤ 40) (hi : i < zs.length) (ht : TreeLo n₀ D f W p zs) (hn0 : n₀ ≤ W.heap.size) (hBt : W.cell? ⟨Bt, 0, none⟩ = some (.pointer (some ⟨p, 0, none⟩))) (hBi : W.cell? ⟨Bi, 0, none⟩ = some (.int .i64 i)) (hj : J [] W) :
    CallsIn Fence.wide n Tryz.prog 113 #[.func (.yield l) #[] #[], .pointer (some ⟨Bt, 0, none⟩), .pointer (some ⟨Bi, 0, none⟩)] W fun e W' => (∃ v, e = .returned v) ∧
      ((∃ ys, ys = Tm.prf zs i ∧ J ys W') ∨ (∃ pre, pre <+: Tm.prf zs i ∧ Jx pre W')) := by
  have hdd : ∀ k : Nat, (Fence.wide.depth.isSome = true → 1 ≤ k) := fun k h => by cases h
  have hp := hide (c114 l n₀ D (Tm.prf zs i).length J Jx hJ (fun m pre x W hj hl => wide_room (hY pre x W hj hl)) f zs i (n - 1) p [] W h40 hi ht hn0 hj (by simp))
  clear hY hJ hj ht
  refine callsIn_of_wp Tryz.func113 rfl trivial ?_ rfl
  simp only [Tryz.ntmps113, List.size_toArray, List.length_cons, List.length_nil, Nat.reduceAdd, Nat.reduceSub, Array.replicate_succ, Array.replicate_zero, List.push_toArray, List.append_toArray, List.nil_append, List.cons_append]
  gi_wp2_with fail
  refine ⟨trivial, hdd _, ?_⟩
  refine (unhide hp).mono ?_
  rintro e w4 (⟨rfl, hj4, hb4⟩ | ⟨rfl, q, hq, hx⟩)
  · have H := hide hj4
    clear hj4 hb4
    gi_wp2_with fail
    go_end0
    exact ⟨⟨_, rfl⟩, .inl ⟨_, rfl, by simpa using unhide H⟩⟩
  · have H := hide hx
    have HQ := hide hq
    clear hx hq
    gi_wp2_with fail
    go_end0
    exact ⟨⟨_, rfl⟩, .inr ⟨q, unhide HQ, by simpa using unhide H⟩⟩

set_option maxHeartbeats 1000000 in
theorem c92 (n : Nat) (p : Nat) (i : Int) (w : World) :
    CallsIn Fence.wide n Tryz.prog 92 #[.pointer (some ⟨p, 0, none⟩), .int .i64 i] w fun e w' => e = .returned (.func (.func 113) #[] #[.pointer (some ⟨w.heap.size, 0, none⟩), .pointer (some ⟨w.heap.size + 1, 0, none⟩)]) ∧ w' = (w.alloc (.cells #[.pointer (some ⟨p, 0, none⟩)] 86)).alloc (.cells #[.int .i64 i] 3) := by
  refine callsIn_of_wp Tryz.func92 rfl trivial ?_ rfl
  simp only [Tryz.ntmps92, List.size_toArray, List.length_cons, List.length_nil, Nat.reduceAdd, Nat.reduceSub, Array.replicate_succ, Array.replicate_zero, List.push_toArray, List.append_toArray, List.nil_append, List.cons_append]
  gi_wp2
  go_ret
  exact ⟨rfl, rfl⟩

theorem beside_stops (n Bt Bi n₀ D p f i : Nat) (zs : List Int) (w : World) (h40 : zs.length ≤ 40) (hi : i < zs.length) (hBt : Bt < w.heap.size) (hBi : Bi < w.heap.size) (hn₀ : n₀ ≤ w.heap.size)
    (hc : w.cell? ⟨Bt, 0, none⟩ = some (.pointer (some ⟨p, 0, none⟩))) (hd : w.cell? ⟨Bi, 0, none⟩ = some (.int .i64 i)) (ht : TreeLo n₀ D f w p zs) :
    SeqStopsK Fence.wide n Tryz.prog 113 #[.pointer (some ⟨Bt, 0, none⟩), .pointer (some ⟨Bi, 0, none⟩)] (fun x : Int => #[Value.int .i64 x]) (Kb n₀ D) (fun ys => ys = Tm.prf zs i) (fun pre => pre <+: Tm.prf zs i) (Tm.prf zs i).length w := fun l J Jx W hW hJ _ hY h0 =>
  c113 l n₀ D Bt Bi n zs i p f J Jx (fun s A B hs hg => hJ s A B none hs hg (fun r e => by cases e)) hY W h40 hi (ht.below (Kb.of (hW.mono hn₀)) _ _ _) (Nat.le_trans hn₀ hW.size) ((hW.cell (p := ⟨Bt, 0, none⟩) hBt).trans hc) ((hW.cell (p := ⟨Bi, 0, none⟩) hBi).trans hd) h0

theorem prf_fits {zs : List Int} {i : Nat} (h : zs.length ≤ 40) (hok : Tm.okAll zs = true) : Fits (Tm.prf zs i) := by
  have h1 := Tm.prf_ok _ zs i (Nat.le_refl _) h hok
  intro z hz
  obtain ⟨k, hk, rfl⟩ := List.getElem_of_mem hz
  have := Tm.okAll_at h1 hk
  rw [Tm.getD_eq hk] at this
  exact ok_fits this
theorem own_weaken {w : World} {base base' e size : Nat} {v : Value} {n : Nat} {xs : List Value} (h : w.ownsRow base e size v n xs) (hb : base' ≤ base) : w.ownsRow base' e size v n xs := by
  refine ⟨h.1, ?_⟩
  rcases h.2 with h2 | ⟨g, cap, cur, h3, h4, r⟩
  · exact Or.inl h2
  · exact Or.inr ⟨g, cap, cur, h3, Nat.le_trans hb h4, r⟩
/-- one number more, told into the list that a box holds: what it leaves -/
theorem boxed_append {W w4 : World} {n₀ B b₀ : Nat} {v v' : Value} {k m : Nat} {xs ys : List Value} {tmp : Obj} (hv : Boxed W B 25 v) (hrow : W.ownsRow n₀ 3 1 v k xs) (hn : n₀ ≤ W.heap.size ∧ b₀ ≤ B ∧ B < n₀)
    (hown' : w4.ownsRow n₀ 3 1 v' m ys) (hgrow : (W.alloc tmp).grownBy w4 v.ownBlock) :
    Boxed w4 B 25 v ∧ Boxed (w4.setCell ⟨B, 0, none⟩ v') B 25 v' ∧ (w4.setCell ⟨B, 0, none⟩ v').ownsRow n₀ 3 1 v' m ys ∧ KeepsOthers W (w4.setCell ⟨B, 0, none⟩ v') ∧ Below b₀ W (w4.setCell ⟨B, 0, none⟩ v') ∧ Kb n₀ B W (w4.setCell ⟨B, 0, none⟩ v') := by
  obtain ⟨h1, h2, h3⟩ := hn
  obtain ⟨a1, a2, a3, a4, a5⟩ := hv.appended (n₀ := b₀) (by decide) (own_weaken hrow (by omega)) (by omega) h2 (own_weaken hown' (by omega)) hgrow
  refine ⟨a1, a2, hown'.kept (grownBy_setCell' w4 B v') (.inr (a1.not_row (by decide) hown').symm), a4, a5, a5.size, fun i hi hd => ?_⟩
  rw [Below.heap_setCell _ _ _ _ (by simpa using hd), hgrow.block i (by simp; omega) ?_, Below.heap_alloc _ _ _ (by omega)]
  intro e
  have := (hrow.lt i e.symm).1
  omega

set_option maxRecDepth 100000 in
set_option maxHeartbeats 1000000 in
theorem c60 (zs : List Int) (i : Int) (ao : Option Addr) (n cap : Nat) (w : World) (hn : zs.length = n) (hcap : n ≤ cap) (hb : n ≤ 1048576) (hr : Row w ao zs) :
    Calls Tryz.prog 60 #[.slice ao n cap, .int .i64 i] w (Told w (Tm.treProof zs i)) := by
  refine (callsIn_wide (n := 5)).1 ?_
  have hdd : ∀ k : Nat, (Fence.wide.depth.isSome = true → 1 ≤ k) := fun k h => by cases h
  have HR := hide hr
  have HN := hide hn
  have HE : Hid (Own w w.heap.size (.slice none 0 0) []) := ⟨fun z hz => by simp at hz, World.ownsRow_nil _ _ _ _⟩
  clear hr hn
  obtain ⟨i0, hi0, hz0, hz1, hz2⟩ := info_parts Tryz.info3
  rcases ho : Tm.treOk zs with _ | _
  · have HU := hide (treProof_no (zs := zs) (i := i) (by rw [ho]; simp))
    refine callsIn_of_wp_marks Tryz.func60 rfl trivial ?_ rfl
    simp only [Tryz.ntmps60, List.size_toArray, List.length_cons, List.length_nil, Nat.reduceAdd, Nat.reduceSub, Array.replicate_succ, Array.replicate_zero, List.push_toArray, List.append_toArray, List.nil_append, List.cons_append]
    gi_wp2_with fail
    refine ⟨trivial, ?_⟩
    refine (callsIn_wide.2 (c63 zs _ _ _ _ (unhide HN) (by omega) (unhide HR))).mono ?_
    rintro e w1 ⟨rfl, rfl⟩
    gi_wp2_with fail
    exact ⟨_, results_tmp rfl _ _ _, _, rfl, by rw [unhide HU]; exact unhide HE, Below.refl _ _⟩
  by_cases hneg : i < 0
  · have HU := hide (treProof_no (zs := zs) (i := i) (by omega))
    refine callsIn_of_wp_marks Tryz.func60 rfl trivial ?_ rfl
    simp only [Tryz.ntmps60, List.size_toArray, List.length_cons, List.length_nil, Nat.reduceAdd, Nat.reduceSub, Array.replicate_succ, Array.replicate_zero, List.push_toArray, List.append_toArray, List.nil_append, List.cons_append]
    gi_wp2_with fail
    refine ⟨trivial, ?_⟩
    refine (callsIn_wide.2 (c63 zs _ _ _ _ (unhide HN) (by omega) (unhide HR))).mono ?_
    rintro e w1 ⟨rfl, rfl⟩
    gi_wp2_with fail
    exact ⟨_, results_tmp rfl _ _ _, _, rfl, by rw [unhide HU]; exact unhide HE, Below.refl _ _⟩
  have dneg : decide (i < 0) = false := by simpa using hneg
  by_cases hbig : (n : Int) ≤ i
  · have HU := hide (treProof_no (zs := zs) (i := i) (by have := unhide HN; omega))
    refine callsIn_of_wp_marks Tryz.func60 rfl trivial ?_ rfl
    simp only [Tryz.ntmps60, List.size_toArray, List.length_cons, List.length_nil, Nat.reduceAdd, Nat.reduceSub, Array.replicate_succ, Array.replicate_zero, List.push_toArray, List.append_toArray, List.nil_append, List.cons_append]
    gi_wp2_with fail
    refine ⟨trivial, ?_⟩
    refine (callsIn_wide.2 (c63 zs _ _ _ _ (unhide HN) (by omega) (unhide HR))).mono ?_
    rintro e w1 ⟨rfl, rfl⟩
    gi_wp2_with fail
    exact ⟨_, results_tmp rfl _ _ _, _, rfl, by rw [unhide HU]; exact unhide HE, Below.refl _ _⟩
  have dbig : decide ((n : Int) ≤ i) = false := by simpa using hbig
  have HU := hide (treProof_of (zs := zs) (i := i) ⟨ho, by omega, by have := unhide HN; omega⟩)
  obtain ⟨t1, t2⟩ := treOk_len ho
  have HA := hide t2
  rw [unhide HN] at t1
  obtain ⟨iN, rfl⟩ := Int.eq_ofNat_of_zero_le (show 0 ≤ i by omega)
  rw [Int.toNat_natCast] at HU
  have h1 : 1 ≤ 5 := by omega
  refine callsIn_of_wp_marks Tryz.func60 rfl trivial ?_ rfl
  simp only [Tryz.ntmps60, List.size_toArray, List.length_cons, List.length_nil, Nat.reduceAdd, Nat.reduceSub, Array.replicate_succ, Array.replicate_zero, List.push_toArray, List.append_toArray, List.nil_append, List.cons_append]
  gi_wp2_with fail
  refine ⟨trivial, ?_⟩
  refine (callsIn_wide.2 (c63 zs _ _ _ _ (unhide HN) (by omega) (unhide HR))).mono ?_
  rintro e w1 ⟨rfl, rfl⟩
  have hb0 : Below w1.heap.size w1 (w1.alloc (.cells #[.slice none 0 0] 25)) := (Below.refl _ _).alloc (Nat.le_refl _) _
  have HRa := hide ((unhide HR).below hb0 (Nat.le_refl _))
  have HB0 := hide hb0
  have bP := Boxed.new w1 25 (.slice none 0 0)
  have BP := hide bP
  clear hb0 bP
  gi_wp2_with fail
  refine ⟨trivial, ?_⟩
  refine (callsIn_wide.2 (c64 n zs _ _ _ _ (by rw [unhide HN]; exact Nat.le_refl _) (unhide HN) t1 hcap (unhide HA) (unhide HRa))).mono ?_
  rintro e w2 ⟨p, rfl, ht, hb2⟩
  have bP2 : Boxed w2 w1.heap.size 25 (.slice none 0 0) := (hb2.block _ (unhide BP).lt).trans (unhide BP)
  have BP2 := hide bP2
  have HB2 := hide (below_then (unhide HB0) hb2)
  have HT := hide ht
  clear bP2 hb2 ht
  gi_wp2_with fail
  refine ⟨trivial, ?_⟩
  refine (c92 _ _ _ _).mono ?_
  rintro e w3 ⟨rfl, rfl⟩
  have hb3 : Below w2.heap.size w2 ((w2.alloc (.cells #[.pointer (some ⟨p, 0, none⟩)] 86)).alloc (.cells #[.int .i64 iN] 3)) := ((Below.refl _ w2).alloc (Nat.le_refl _) _).alloc (by simp) _
  have hb4 := below_then (unhide HB2) hb3
  have bT : Boxed ((w2.alloc (.cells #[.pointer (some ⟨p, 0, none⟩)] 86)).alloc (.cells #[.int .i64 iN] 3)) w2.heap.size 86 (.pointer (some ⟨p, 0, none⟩)) := (Boxed.new w2 86 _).alloc _
  have bI : Boxed ((w2.alloc (.cells #[.pointer (some ⟨p, 0, none⟩)] 86)).alloc (.cells #[.int .i64 iN] 3)) (w2.heap.size + 1) 3 (.int .i64 iN) := by
    have := Boxed.new (w2.alloc (.cells #[.pointer (some ⟨p, 0, none⟩)] 86)) 3 (.int .i64 iN)
    rwa [World.size_alloc] at this
  have bP3 := ((unhide BP2).alloc (.cells #[.pointer (some ⟨p, 0, none⟩)] 86)).alloc (.cells #[.int .i64 iN] 3)
  have hlo := ((TreeLo.of (unhide BP2) _ _ _ (unhide HT)).below (Kb.of hb3) _ _ _).mono hb3.size _ _ _
  have hpl := Tm.prf_len6 (l := zs) iN (by have := unhide HN; omega)
  have hw12 : w1.heap.size < w2.heap.size := (unhide BP2).lt
  have HFits := hide (prf_fits (zs := zs) (i := iN) (by have := unhide HN; omega) t2)
  generalize hW3 : (w2.alloc (.cells #[.pointer (some ⟨p, 0, none⟩)] 86)).alloc (.cells #[.int .i64 iN] 3) = W3 at *
  have hs3 : W3.heap.size = w2.heap.size + 2 := by rw [← hW3]; simp
  clear hW3 hb3
  gi_wp2_with fail
  refine wpIn_rangeFunc_ownG rfl h1 (gf := 113) (lb := #[.pointer (some ⟨w2.heap.size, 0, none⟩), .pointer (some ⟨w2.heap.size + 1, 0, none⟩)]) rfl trivial (enters_of Tryz.func113 (by kernel_rfl) rfl)
    (beside_stops _ w2.heap.size (w2.heap.size + 1) W3.heap.size w1.heap.size p (n + 1) iN zs W3 (by have := unhide HN; omega) (by have := unhide HN; omega) (by omega) (by omega) (Nat.le_refl _) bT.cell bI.cell hlo)
    (fun h k => h.trans k) (fun W l o o' hl hk hc hw => Kb.of (belowK_b (Nat.le_refl _) W l o o' hl hk hc hw)) (Below.refl _ _) (fun _ => rfl)
    (fun (pre : List Int) W => (∃ v, Boxed W w1.heap.size 25 v ∧ W.ownsRow W3.heap.size 3 1 v pre.length (pre.map (Value.int .i64)) ∧ True) ∧ (Below w1.heap.size w1 W ∧ W3.heap.size ≤ W.heap.size))
    (fun _ _ _ => False)
    (OwnFrom.and (Own.from (holdsRow_own W3.heap.size w1.heap.size 25 3 1 (fun (pre : List Int) => pre.length) (fun (pre : List Int) => pre.map (Value.int .i64)) (fun pre v => True)) _) (OwnFrom.and (ownFrom_below (Nat.le_refl _) (by omega)) (fun _ _ _ _ hs hg _ => Nat.le_trans hs hg.size)))
    (fun _ _ _ _ _ hs _ _ => hs)
    ⟨⟨_, bP3, World.ownsRow_nil _ _ _ _, trivial⟩, hb4, Nat.le_refl _⟩
    (fun x => { tmps := #[.slice ao n cap, .int .i64 iN, undef, undef, .slice none 0 0, .pointer (some ⟨w1.heap.size, 0, none⟩), .int .i64 x, .slice ao n cap, .bool true, .bool false, .bool false, .int .i64 iN, .bool false, .bool false, .bool false, .int .i64 iN, .slice ao n cap, .int .i64 n, .bool false, .bool false, .slice ao n cap, .pointer (some ⟨p, 0, none⟩), .int .i64 iN, .func (.func 113) #[] #[.pointer (some ⟨w2.heap.size, 0, none⟩), .pointer (some ⟨w2.heap.size + 1, 0, none⟩)], .int .i64 x, undef, undef, undef, undef, undef], defers := [] }) ?assign ?body ?done ?stop
  case assign =>
    intro l x W K hK
    gi_wp2
    exact hK
  case body =>
    rintro l pre x W ⟨⟨v, hv, hrow, -⟩, hB, hS⟩ hlt
    have hc := hv.cell
    gi_wp2_with (gi_at_builtin; refine wpListIn_append_own _ rfl _ _ 25 rfl W3.heap.size 3 i0 (.int .i64 0) 1 8 Tryz.underlying25 hi0 hz0 hz1 hz2 rfl (by decide) _ _ _ rfl (hrow.alloc _) ⟨W.heap.size, 0, none⟩ 1 1 [.int .i64 x] rfl rfl (cell_one_new _ _ _) (by simp [Value.oneCell']) (by unfold maxLen; omega) (by omega) (by simp; omega) ?_; intro v' w4 hown' hgrow _; obtain ⟨g', cap', rfl⟩ := ownsRow_succ hown'; have hap := boxed_append (b₀ := w1.heap.size) hv hrow ⟨hS, Nat.le_refl _, by omega⟩ hown' hgrow; obtain ⟨hv1, hv2, hr2, hk2, hb2, hkb⟩ := hap; have hc1 := hv1.cell; have hf1 := hv1.frozen)
    exact ⟨hk2.from _, hkb, ⟨_, hv2, by simpa using hr2, trivial⟩, hB.trans hb2, Nat.le_trans hS hb2.size⟩
  case done =>
    rintro D ys W hD rfl ⟨⟨v, hv, hrow, -⟩, hB, hS⟩ hK
    have hc := hv.cell
    gi_wp2
    refine ⟨by simp, .inl ⟨_, _, rfl, run_takeDeferred hK, ?_⟩⟩
    exact ⟨_, results_tmp rfl _ _ _, v, rfl, ⟨by rw [unhide HU]; exact unhide HFits, by rw [unhide HU]; exact (own_weaken (ownsRow_putObj hrow _ hK rfl) (by omega))⟩, hB.trans (belowK_b (w := w1) (Nat.le_refl _) W D _ _ (by omega) hK rfl rfl)⟩
  case stop =>
    rintro D c pre W _ _ h _
    exact h.elim
end Go.Proofs.YtmlbphmbffkdnaaGreat
namespace Go.Proofs.YtmlbphmbffkdnaaGreat
open Go.RowKit
set_option linter.unusedVariables false

theorem Told.row {w w' : World} {zs : List Int} {v : Value} (h : Own w' w.heap.size v zs) : ∃ ao cap, v = .slice ao zs.length cap ∧ zs.length ≤ cap ∧ Row w' ao zs := by
  obtain ⟨ao, cap, h1, h2, h3, _⟩ := h.row
  exact ⟨ao, cap, h1, h2, h3⟩
theorem treProof_len {zs : List Int} {i : Int} : (Tm.treProof zs i).length ≤ 6 := by
  unfold Tm.treProof
  split
  · rename_i h
    exact Tm.prf_len6 _ (treOk_len h.1).1
  · simp
theorem check_prf {ys : List Int} {i : Nat} (hok : Tm.treOk ys = true) (hi : i < ys.length) : Tm.treCheck (Tm.treRoot ys) ys.length i (ys.getD i 0) (Tm.prf ys i) = true := by
  obtain ⟨t1, t2⟩ := treOk_len hok
  have h1 := Tm.up_prf _ ys i (Nat.le_refl _) t1 hi t2
  have h2 : Tm.treOk (Tm.prf ys i) = true := by
    unfold Tm.treOk
    rw [decide_eq_true (by have := Tm.prf_len6 (l := ys) i t1; omega), Tm.prf_ok _ ys i (Nat.le_refl _) t1 t2]; rfl
  unfold Tm.treCheck
  rw [treUp_of ⟨by omega, by omega, by omega, by omega, Tm.okAll_at t2 hi, h2⟩, h1, treRoot_of t1 t2]
  simp

end Go.Proofs.YtmlbphmbffkdnaaGreat
namespace Go.Proofs.YtmlbphmbffkdnaaGreat
open Go.RowKit
set_option linter.unusedVariables false

/-- the marks 1, 2, 3 .. of a list, the first so many; behind them what was there -/
def marked (zs : List Int) (k : Nat) : List Int := (List.range k).map (fun j => ((j + 1 : Nat) : Int)) ++ zs.drop k
end Go.Proofs.YtmlbphmbffkdnaaGreat
