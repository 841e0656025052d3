/-
  The walks of the program's iterator over what stands beside a leaf: sides, tellBeside.
-/
import Derived.Test.YtjdnengmllamcaaPrfs
import Derived.RangeFuncBox
import Derived.RangeFuncLeaves
import Derived.Shelf.Abstract
import Derived.OwnWalkIn
import Derived.TacticsInMore
import Derived.LoopNIn
import Derived.LoopIn
import Derived.Maps.AppendAt
namespace Go.Proofs.Ytjdnengmllamcaa
open Go.RowKit Go.Shelf
set_option linter.unusedVariables false

set_option maxHeartbeats 1000000 in
theorem c162 (p pl pr : Nat) (c a : Int) (l : Bool) (w : World) (h2 : w.cell? ⟨p, 2, none⟩ = some (.pointer (some ⟨pl, 0, none⟩))) (h3 : w.cell? ⟨p, 3, none⟩ = some (.pointer (some ⟨pr, 0, none⟩))) :
    Calls Try.prog 162 #[.pointer (some ⟨p, 0, none⟩), .agg #[.int .i64 c, .int .i64 a, .bool l]] w fun e w' => e = .returned (.tuple #[.pointer (some ⟨if l = true then pl else pr, 0, none⟩), .pointer (some ⟨if l = true then pr else pl, 0, none⟩)]) ∧ Below w.heap.size w w' := by
  have hbW : Below w.heap.size w (w.alloc (.cells #[.int .i64 c, .int .i64 a, .bool l] 145)) := (Below.refl _ _).alloc (Nat.le_refl _) _
  have G2 := hide (cell_below hbW h2)
  have G3 := hide (cell_below hbW h3)
  have HB := hide hbW
  clear h2 h3 hbW
  cases l
  · go_enter Try.func162, Try.ntmps162
    go_wp2_with fail
    generalize w.alloc (.cells #[.int .i64 c, .int .i64 a, .bool false] 145) = W at *
    have g2 := unhide G2
    have g3 := unhide G3
    go_quiet (fail)
    go_wp2_with fail
    go_ret2
    exact ⟨rfl, below_drewN (unhide HB) _⟩
  · go_enter Try.func162, Try.ntmps162
    go_wp2_with fail
    generalize w.alloc (.cells #[.int .i64 c, .int .i64 a, .bool true] 145) = W at *
    have g2 := unhide G2
    have g3 := unhide G3
    go_quiet (fail)
    go_wp2_with fail
    go_ret2
    exact ⟨rfl, below_drewN (unhide HB) _⟩

/-- what lies below block n₀, but for block D, is as it was -/
structure Kb (n₀ D : Nat) (w w' : World) : Prop where
  size : w.heap.size ≤ w'.heap.size
  block : ∀ k, k < n₀ → k ≠ D → w'.heap[k]? = w.heap[k]?
theorem Kb.refl (n₀ D : Nat) (w : World) : Kb n₀ D w w := ⟨Nat.le_refl _, fun _ _ _ => rfl⟩
theorem Kb.trans {n₀ D : Nat} {a b c : World} (h : Kb n₀ D a b) (k : Kb n₀ D b c) : Kb n₀ D a c := ⟨Nat.le_trans h.size k.size, fun i hi hd => (k.block i hi hd).trans (h.block i hi hd)⟩
theorem Kb.of {n₀ D : Nat} {a b : World} (h : Below n₀ a b) : Kb n₀ D a b := ⟨h.size, fun i hi _ => h.block i hi⟩
theorem Kb.cell {n₀ D : Nat} {w w' : World} (h : Kb n₀ D w w') {p : Addr} (hp : p.block < n₀) (hd : p.block ≠ D) : w'.cell? p = w.cell? p := World.cell?_of_block (w := w) (h.block p.block hp hd)

/-- a tree in memory that lies below block n₀, and not in block D -/
def TreeLo (n₀ D : Nat) : Nat → World → Nat → List Int → Prop
  | 0, _, _, _ => False
  | f + 1, w, p, l => (p < n₀ ∧ p ≠ D) ∧ w.cell? ⟨p, 0, none⟩ = some (.int .i64 (Tm.root l)) ∧ w.cell? ⟨p, 1, none⟩ = some (.int .i64 l.length) ∧
      (2 ≤ l.length → ∃ pl pr, w.cell? ⟨p, 2, none⟩ = some (.pointer (some ⟨pl, 0, none⟩)) ∧ w.cell? ⟨p, 3, none⟩ = some (.pointer (some ⟨pr, 0, none⟩)) ∧ TreeLo n₀ D f w pl (l.take (Tm.sp l)) ∧ TreeLo n₀ D f w pr (l.drop (Tm.sp l)))
theorem box_one {W : World} {B : Nat} {t : TypeId} {v : Value} (h : Boxed W B t v) : W.cell? ⟨B, 1, none⟩ = none := by
  simp [World.cell?, show W.heap[B]? = _ from h]
theorem TreeLo.of {w : World} {D : Nat} {t : TypeId} {v : Value} (hD : Boxed w D t v) : ∀ (f p : Nat) (l : List Int), TreeAt f w p l → TreeLo w.heap.size D f w p l := by
  intro f
  induction f with
  | zero => intro p l h; exact h
  | succ f ih =>
    intro p l h
    obtain ⟨h0, h1, h2⟩ := h
    refine ⟨⟨World.block_lt_of_cell? w _ h0, ?_⟩, h0, h1, fun hl => ?_⟩
    · intro e
      rw [e, box_one hD] at h1
      cases h1
    · obtain ⟨pl, pr, h3, h4, h5, h6⟩ := h2 hl
      exact ⟨pl, pr, h3, h4, ih _ _ h5, ih _ _ h6⟩
theorem TreeLo.mono {n₀ n₁ D : Nat} {w : World} (hn : n₀ ≤ n₁) : ∀ (f p : Nat) (l : List Int), TreeLo n₀ D f w p l → TreeLo n₁ D f w p l := by
  intro f
  induction f with
  | zero => intro p l h; exact h
  | succ f ih =>
    intro p l h
    obtain ⟨h, h0, h1, h2⟩ := h
    refine ⟨⟨Nat.lt_of_lt_of_le h.1 hn, h.2⟩, h0, h1, fun hl => ?_⟩
    obtain ⟨pl, pr, h3, h4, h5, h6⟩ := h2 hl
    exact ⟨pl, pr, h3, h4, ih _ _ h5, ih _ _ h6⟩
theorem TreeLo.below {n₀ D : Nat} {w w' : World} (hb : Kb n₀ D w w') : ∀ (f p : Nat) (l : List Int), TreeLo n₀ D f w p l → TreeLo n₀ D f w' p l := by
  intro f
  induction f with
  | zero => intro p l h; exact h
  | succ f ih =>
    intro p l h
    obtain ⟨h, h0, h1, h2⟩ := h
    refine ⟨h, (hb.cell (p := ⟨p, 0, none⟩) h.1 h.2).trans h0, (hb.cell (p := ⟨p, 1, none⟩) h.1 h.2).trans h1, fun hl => ?_⟩
    obtain ⟨pl, pr, h3, h4, h5, h6⟩ := h2 hl
    exact ⟨pl, pr, (hb.cell (p := ⟨p, 2, none⟩) h.1 h.2).trans h3, (hb.cell (p := ⟨p, 3, none⟩) h.1 h.2).trans h4, ih _ _ h5, ih _ _ h6⟩
theorem TreeLo.root {n₀ D f : Nat} {w : World} {p : Nat} {l : List Int} (h : TreeLo n₀ D f w p l) : p < n₀ ∧ w.cell? ⟨p, 0, none⟩ = some (.int .i64 (Tm.root l)) := by
  cases f with
  | zero => exact h.elim
  | succ f => exact ⟨h.1.1, h.2.1⟩

theorem wide_room {m m' : Nat} {P : Program} {l : Nat} {args : Array Value} {W : World} {R : Ending → World → Prop} (h : YieldAt Fence.wide m P l args W R) : YieldAt Fence.wide m' P l args W R := by
  obtain ⟨fn, tmps, assign, body, hy, hR⟩ := h
  exact ⟨fn, tmps, assign, body, hy, hR.1, fun c cs _ => hR.2 c cs (fun d h => by cases h)⟩

/-- how the iterator tells: all has come, or a beginning, a round having said that no more is wanted -/
def Tells (J Jx : List Int → World → Prop) (n₀ D : Nat) (pre ps : List Int) (W : World) (e : Ending) (W' : World) : Prop :=
  (e = .returned (.bool true) ∧ J (pre ++ ps) W' ∧ Kb n₀ D W W') ∨ (e = .returned (.bool false) ∧ ∃ q, q <+: ps ∧ Jx (pre ++ q) W')

attribute [local go_sem] Oper.semAt_some

set_option maxRecDepth 100000 in
set_option maxHeartbeats 1000000 in
theorem c171 (l n₀ D N : Nat) (J Jx : List Int → World → Prop) (hJ : ∀ s W W', J s W → W.grownBy W' none → J s W')
    (hY : ∀ m pre x W, J pre W → pre.length < N → YieldAt Fence.wide m Try.prog l #[.int .i64 x] W fun e W' =>
      (e = .returned (.bool true) ∧ J (pre ++ [x]) W' ∧ Kb n₀ D W W') ∨ (e = .returned (.bool false) ∧ Jx (pre ++ [x]) W')) (f : Nat) :
    ∀ (zs : List Int) (i n p : Nat) (pre : List Int) (W : World), zs.length ≤ 40 → i < zs.length → TreeLo n₀ D f W p zs → n₀ ≤ W.heap.size → J pre W → pre.length + (Tm.prf zs i).length ≤ N →
      CallsIn Fence.wide n Try.prog 171 #[.pointer (some ⟨p, 0, none⟩), .int .i64 i, .func (.yield l) #[] #[]] W (Tells J Jx n₀ D pre (Tm.prf zs i) W) := by
  induction f with
  | zero => intro zs i n p pre W h40 hi ht; exact ht.elim
  | succ f ih =>
    intro zs i n p pre W h40 hi ht hn0 hj hN
    obtain ⟨hp, h0, h1, hkids⟩ := ht
    have hdd : ∀ k : Nat, (Fence.wide.depth.isSome = true → 1 ≤ k) := fun k h => by cases h
    by_cases h2 : (zs.length : Int) < 2
    · have HU := hide (Tm.prf_one (l := zs) (i := i) (by omega))
      have HJ := hide hj
      clear hkids ih hY hJ hj hN
      refine callsIn_of_wp Try.func171 rfl trivial ?_ rfl
      simp only [Try.ntmps171, List.size_toArray, List.length_cons, List.length_nil, Nat.reduceAdd, Nat.reduceSub, Array.replicate_succ, Array.replicate_zero, List.push_toArray, List.append_toArray, List.nil_append, List.cons_append]
      gi_wp2
      go_ret
      exact .inl ⟨rfl, by rw [unhide HU, List.append_nil]; exact unhide HJ, Kb.refl _ _ _⟩
    · obtain ⟨pl, pr, h3, h4, hl, hr⟩ := hkids (by omega)
      have hs := Tm.sp_bd (l := zs) (by omega) h40
      have hsi := Tm.sp_int (l := zs) (by omega) h40
      obtain ⟨s1, s2, s3⟩ := hs
      by_cases hil : i < Tm.sp zs
      · have HU := hide (Tm.prf_left (l := zs) (i := i) (by omega) h40 hil)
        have HS : Hid (stepOf zs.length i = .agg #[.int .i64 (Tm.sp zs), .int .i64 i, .bool true]) := by unfold Hid stepOf; rw [hsi, if_pos (by omega)]
        have hJH := hide hJ
        have hYH := hide hY
        have IH := hide ih
        have HL := hide hl
        have HR := hide hr
        have HJ := hide hj
        have hpl : (Tm.prf zs i).length = (Tm.prf (zs.take (Tm.sp zs)) i).length + 1 := by rw [unhide HU, List.length_append, List.length_singleton]
        have hlt : (zs.take (Tm.sp zs)).length = Tm.sp zs := by rw [List.length_take]; omega
        have HLT := hide hlt
        rw [hpl] at hN
        clear ih hY hJ hj hl hr hpl hlt hsi hkids
        generalize zs.take (Tm.sp zs) = lt at *
        generalize zs.drop (Tm.sp zs) = rt at *
        generalize Tm.sp zs = s at *
        refine callsIn_of_wp Try.func171 rfl trivial ?_ rfl
        simp only [Try.ntmps171, List.size_toArray, List.length_cons, List.length_nil, Nat.reduceAdd, Nat.reduceSub, Array.replicate_succ, Array.replicate_zero, List.push_toArray, List.append_toArray, List.nil_append, List.cons_append]
        gi_wp2_with fail
        refine ⟨trivial, hdd _, ?_⟩
        refine (callsIn_wide.2 (c159 _ _ _ (by omega) (by omega) (by omega) (by omega))).mono ?_
        rintro e w1 ⟨rfl, hb1⟩
        rw [unhide HS]
        have hb2 : Below W.heap.size W (w1.alloc (.cells #[.int .i64 s, .int .i64 i, .bool true] 145)) := hb1.alloc hb1.size _
        have A1 : Hid ((w1.alloc (.cells #[.int .i64 s, .int .i64 i, .bool true] 145)).cell? ⟨w1.heap.size, 1, none⟩ = some (.int .i64 i)) := by unfold Hid; rw [World.cell?_alloc_new]; rfl
        have H3 := hide (cell_below hb2 h3)
        have H4 := hide (cell_below hb2 h4)
        have HB2 := hide hb2
        clear hb1 hb2 h0 h1 h3 h4
        gi_wp2_with fail
        refine ⟨trivial, hdd _, ?_⟩
        generalize w1.alloc (.cells #[.int .i64 s, .int .i64 i, .bool true] 145) = W2 at *
        generalize w1.heap.size = B at *
        refine (callsIn_wide.2 (c162 p pl pr _ _ true _ (unhide H3) (unhide H4))).mono ?_
        rintro e w3 ⟨rfl, hb3⟩
        simp only [if_true]
        have a1 := cell_below hb3 (unhide A1)
        have hb4 := below_then (unhide HB2) hb3
        have hbn : Kb n₀ D W w3 := Kb.of (hb4.mono hn0)
        have hj3 := unhide hJH _ _ _ (unhide HJ) (grown_of_below hb4)
        have hn3 : n₀ ≤ w3.heap.size := Nat.le_trans hn0 hb4.size
        have ih3 := unhide IH lt i (n - 1) pl pre w3 (by have := unhide HLT; omega) (by have := unhide HLT; omega) ((unhide HL).below hbn _ _ _) hn3 hj3 (by omega)
        have IH3 := hide ih3
        have HRr := hide ((unhide HR).below hbn _ _ _)
        have HBN := hide hbn
        clear hb3 hb4 hbn hj3 hn3 ih3 A1 H3 H4 HB2
        gi_wp2_with fail
        refine ⟨trivial, hdd _, ?_⟩
        refine (unhide IH3).mono ?_
        rintro e w4 (⟨rfl, hj4, hb4⟩ | ⟨rfl, q, hq, hx⟩)
        · have hr4 := ((unhide HRr).below hb4 _ _ _).root
          obtain ⟨hr5, hr6⟩ := hr4
          obtain ⟨fn, tmps, assign, body, hy, hR⟩ := unhide hYH (n - 1) _ (Tm.root rt) w4 hj4 (by rw [List.length_append]; omega)
          have HB4 := hide ((unhide HBN).trans hb4)
          have HRr := hide hR
          clear hR hj4 hb4
          gi_wp2_with fail
          refine ⟨hdd _, ?_⟩
          refine (unhide HRr).mono ?_
          rintro e w5 (⟨rfl, hj5, hb5⟩ | ⟨rfl, hx5⟩)
          · have HJ5 := hide hj5
            have HB5 := hide ((unhide HB4).trans hb5)
            clear hj5 hb5
            gi_wp2_with fail
            go_ret
            exact .inl ⟨rfl, by rw [unhide HU, ← List.append_assoc]; exact unhide HJ5, unhide HB5⟩
          · have HX5 := hide hx5
            clear hx5
            gi_wp2_with fail
            go_ret
            exact .inr ⟨rfl, Tm.prf lt i ++ [Tm.root rt], by rw [unhide HU]; exact List.prefix_refl _, by rw [← List.append_assoc]; exact unhide HX5⟩
        · have HX := hide hx
          have HQ := hide hq
          clear hx hq
          gi_wp2_with fail
          refine ⟨fun _ h => (by cases h), ?_⟩
          gi_wp2_with fail
          go_ret
          exact .inr ⟨rfl, q, by rw [unhide HU]; exact (unhide HQ).trans (List.prefix_append _ _), unhide HX⟩
      · have HU := hide (Tm.prf_right (l := zs) (i := i) (by omega) h40 hil)
        have HS : Hid (stepOf zs.length i = .agg #[.int .i64 ((zs.length - Tm.sp zs : Nat) : Int), .int .i64 ((i - Tm.sp zs : Nat) : Int), .bool false]) := by unfold Hid stepOf; rw [hsi, if_neg (by omega), show (zs.length : Int) - (Tm.sp zs : Int) = ((zs.length - Tm.sp zs : Nat) : Int) by omega, show (i : Int) - (Tm.sp zs : Int) = ((i - Tm.sp zs : Nat) : Int) by omega]
        have hJH := hide hJ
        have hYH := hide hY
        have IH := hide ih
        have HL := hide hl
        have HR := hide hr
        have HJ := hide hj
        have hpl : (Tm.prf zs i).length = (Tm.prf (zs.drop (Tm.sp zs)) (i - Tm.sp zs)).length + 1 := by rw [unhide HU, List.length_append, List.length_singleton]
        have hlt : (zs.drop (Tm.sp zs)).length = zs.length - Tm.sp zs := by rw [List.length_drop]
        have HLT := hide hlt
        rw [hpl] at hN
        clear ih hY hJ hj hl hr hpl hlt hsi hkids
        generalize zs.take (Tm.sp zs) = lt at *
        generalize zs.drop (Tm.sp zs) = rt at *
        generalize Tm.sp zs = s at *
        refine callsIn_of_wp Try.func171 rfl trivial ?_ rfl
        simp only [Try.ntmps171, List.size_toArray, List.length_cons, List.length_nil, Nat.reduceAdd, Nat.reduceSub, Array.replicate_succ, Array.replicate_zero, List.push_toArray, List.append_toArray, List.nil_append, List.cons_append]
        gi_wp2_with fail
        refine ⟨trivial, hdd _, ?_⟩
        refine (callsIn_wide.2 (c159 _ _ _ (by omega) (by omega) (by omega) (by omega))).mono ?_
        rintro e w1 ⟨rfl, hb1⟩
        rw [unhide HS]
        have hb2 : Below W.heap.size W (w1.alloc (.cells #[.int .i64 ((zs.length - s : Nat) : Int), .int .i64 ((i - s : Nat) : Int), .bool false] 145)) := hb1.alloc hb1.size _
        have A1 : Hid ((w1.alloc (.cells #[.int .i64 ((zs.length - s : Nat) : Int), .int .i64 ((i - s : Nat) : Int), .bool false] 145)).cell? ⟨w1.heap.size, 1, none⟩ = some (.int .i64 ((i - s : Nat) : Int))) := by unfold Hid; rw [World.cell?_alloc_new]; rfl
        have H3 := hide (cell_below hb2 h3)
        have H4 := hide (cell_below hb2 h4)
        have HB2 := hide hb2
        clear hb1 hb2 h0 h1 h3 h4
        gi_wp2_with fail
        refine ⟨trivial, hdd _, ?_⟩
        generalize w1.alloc (.cells #[.int .i64 ((zs.length - s : Nat) : Int), .int .i64 ((i - s : Nat) : Int), .bool false] 145) = W2 at *
        generalize w1.heap.size = B at *
        refine (callsIn_wide.2 (c162 p pl pr _ _ false _ (unhide H3) (unhide H4))).mono ?_
        rintro e w3 ⟨rfl, hb3⟩
        simp only [Bool.false_eq_true, if_false]
        have a1 := cell_below hb3 (unhide A1)
        have hb4 := below_then (unhide HB2) hb3
        have hbn : Kb n₀ D W w3 := Kb.of (hb4.mono hn0)
        have hj3 := unhide hJH _ _ _ (unhide HJ) (grown_of_below hb4)
        have hn3 : n₀ ≤ w3.heap.size := Nat.le_trans hn0 hb4.size
        have ih3 := unhide IH rt (i - s) (n - 1) pr pre w3 (by have := unhide HLT; omega) (by have := unhide HLT; omega) ((unhide HR).below hbn _ _ _) hn3 hj3 (by omega)
        have IH3 := hide ih3
        have HRr := hide ((unhide HL).below hbn _ _ _)
        have HBN := hide hbn
        clear hb3 hb4 hbn hj3 hn3 ih3 A1 H3 H4 HB2
        gi_wp2_with fail
        refine ⟨trivial, hdd _, ?_⟩
        refine (unhide IH3).mono ?_
        rintro e w4 (⟨rfl, hj4, hb4⟩ | ⟨rfl, q, hq, hx⟩)
        · have hr4 := ((unhide HRr).below hb4 _ _ _).root
          obtain ⟨hr5, hr6⟩ := hr4
          obtain ⟨fn, tmps, assign, body, hy, hR⟩ := unhide hYH (n - 1) _ (Tm.root lt) w4 hj4 (by rw [List.length_append]; omega)
          have HB4 := hide ((unhide HBN).trans hb4)
          have HRr := hide hR
          clear hR hj4 hb4
          gi_wp2_with fail
          refine ⟨hdd _, ?_⟩
          refine (unhide HRr).mono ?_
          rintro e w5 (⟨rfl, hj5, hb5⟩ | ⟨rfl, hx5⟩)
          · have HJ5 := hide hj5
            have HB5 := hide ((unhide HB4).trans hb5)
            clear hj5 hb5
            gi_wp2_with fail
            go_ret
            exact .inl ⟨rfl, by rw [unhide HU, ← List.append_assoc]; exact unhide HJ5, unhide HB5⟩
          · have HX5 := hide hx5
            clear hx5
            gi_wp2_with fail
            go_ret
            exact .inr ⟨rfl, Tm.prf rt (i - s) ++ [Tm.root lt], by rw [unhide HU]; exact List.prefix_refl _, by rw [← List.append_assoc]; exact unhide HX5⟩
        · have HX := hide hx
          have HQ := hide hq
          clear hx hq
          gi_wp2_with fail
          refine ⟨fun _ h => (by cases h), ?_⟩
          gi_wp2_with fail
          go_ret
          exact .inr ⟨rfl, q, by rw [unhide HU]; exact (unhide HQ).trans (List.prefix_append _ _), unhide HX⟩
end Go.Proofs.Ytjdnengmllamcaa
