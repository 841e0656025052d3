/-
  Texts of the proof, what it needs of them: Side.
-/
import Derived.Deep.RegionWith
import Derived.LoopIn
import Derived.LoopNIn
import Derived.Maps.AppendAt
import Derived.OwnWalkIn
import Derived.RangeFuncBox
import Derived.RangeFuncLeaves
import Derived.Shelf.Abstract
import Derived.TacticsInMore
import Derived.Test.YtmlbphmbffkdnaaGw10
namespace Go.Proofs.Ytmlbphmbffkdnaa
open Go.RowKit Go.Shelf
set_option linter.unusedVariables false

/-- what lies below block n₀, but for block D, is as it was -/
structure Kb (n₀ D : Nat) (w w' : World) : Prop where
  size : w.heap.size ≤ w'.heap.size
  block : ∀ k, k < n₀ → k ≠ D → w'.heap[k]? = w.heap[k]?
theorem Kb.refl (n₀ D : Nat) (w : World) : Kb n₀ D w w := ⟨Nat.le_refl _, fun _ _ _ => rfl⟩
theorem Kb.trans {n₀ D : Nat} {a b c : World} (h : Kb n₀ D a b) (k : Kb n₀ D b c) : Kb n₀ D a c := ⟨Nat.le_trans h.size k.size, fun i hi hd => (k.block i hi hd).trans (h.block i hi hd)⟩
theorem Kb.of {n₀ D : Nat} {a b : World} (h : Below n₀ a b) : Kb n₀ D a b := ⟨h.size, fun i hi _ => h.block i hi⟩
theorem Kb.cell {n₀ D : Nat} {w w' : World} (h : Kb n₀ D w w') {p : Addr} (hp : p.block < n₀) (hd : p.block ≠ D) : w'.cell? p = w.cell? p := World.cell?_of_block (w := w) (h.block p.block hp hd)

/-- a tree in memory that lies below block n₀, and not in block D -/
def TreeLo (n₀ D : Nat) : Nat → World → Nat → List Int → Prop
  | 0, _, _, _ => False
  | f + 1, w, p, l => (p < n₀ ∧ p ≠ D) ∧ w.cell? ⟨p, 0, none⟩ = some (.int .i64 (Tm.root l)) ∧ w.cell? ⟨p, 1, none⟩ = some (.int .i64 l.length) ∧
      (2 ≤ l.length → ∃ pl pr, w.cell? ⟨p, 2, none⟩ = some (.pointer (some ⟨pl, 0, none⟩)) ∧ w.cell? ⟨p, 3, none⟩ = some (.pointer (some ⟨pr, 0, none⟩)) ∧ TreeLo n₀ D f w pl (l.take (Tm.sp l)) ∧ TreeLo n₀ D f w pr (l.drop (Tm.sp l)))
theorem box_one {W : World} {B : Nat} {t : TypeId} {v : Value} (h : Boxed W B t v) : W.cell? ⟨B, 1, none⟩ = none := by
  simp [World.cell?, show W.heap[B]? = _ from h]
theorem TreeLo.of {w : World} {D : Nat} {t : TypeId} {v : Value} (hD : Boxed w D t v) : ∀ (f p : Nat) (l : List Int), TreeAt f w p l → TreeLo w.heap.size D f w p l := by
  intro f
  induction f with
  | zero => intro p l h; exact h
  | succ f ih =>
    intro p l h
    obtain ⟨h0, h1, h2⟩ := h
    refine ⟨⟨World.block_lt_of_cell? w _ h0, ?_⟩, h0, h1, fun hl => ?_⟩
    · intro e
      rw [e, box_one hD] at h1
      cases h1
    · obtain ⟨pl, pr, h3, h4, h5, h6⟩ := h2 hl
      exact ⟨pl, pr, h3, h4, ih _ _ h5, ih _ _ h6⟩
theorem TreeLo.mono {n₀ n₁ D : Nat} {w : World} (hn : n₀ ≤ n₁) : ∀ (f p : Nat) (l : List Int), TreeLo n₀ D f w p l → TreeLo n₁ D f w p l := by
  intro f
  induction f with
  | zero => intro p l h; exact h
  | succ f ih =>
    intro p l h
    obtain ⟨h, h0, h1, h2⟩ := h
    refine ⟨⟨Nat.lt_of_lt_of_le h.1 hn, h.2⟩, h0, h1, fun hl => ?_⟩
    obtain ⟨pl, pr, h3, h4, h5, h6⟩ := h2 hl
    exact ⟨pl, pr, h3, h4, ih _ _ h5, ih _ _ h6⟩
theorem TreeLo.below {n₀ D : Nat} {w w' : World} (hb : Kb n₀ D w w') : ∀ (f p : Nat) (l : List Int), TreeLo n₀ D f w p l → TreeLo n₀ D f w' p l := by
  intro f
  induction f with
  | zero => intro p l h; exact h
  | succ f ih =>
    intro p l h
    obtain ⟨h, h0, h1, h2⟩ := h
    refine ⟨h, (hb.cell (p := ⟨p, 0, none⟩) h.1 h.2).trans h0, (hb.cell (p := ⟨p, 1, none⟩) h.1 h.2).trans h1, fun hl => ?_⟩
    obtain ⟨pl, pr, h3, h4, h5, h6⟩ := h2 hl
    exact ⟨pl, pr, (hb.cell (p := ⟨p, 2, none⟩) h.1 h.2).trans h3, (hb.cell (p := ⟨p, 3, none⟩) h.1 h.2).trans h4, ih _ _ h5, ih _ _ h6⟩
theorem TreeLo.root {n₀ D f : Nat} {w : World} {p : Nat} {l : List Int} (h : TreeLo n₀ D f w p l) : p < n₀ ∧ w.cell? ⟨p, 0, none⟩ = some (.int .i64 (Tm.root l)) := by
  cases f with
  | zero => exact h.elim
  | succ f => exact ⟨h.1.1, h.2.1⟩

attribute [local go_sem] Oper.semAt_some

end Go.Proofs.Ytmlbphmbffkdnaa
namespace Go.Proofs.Ytmlbphmbffkdnaa
open Go.RowKit Go.Shelf
set_option linter.unusedVariables false
attribute [local go_sem] Oper.semAt_some

end Go.Proofs.Ytmlbphmbffkdnaa
namespace Go.Proofs.Ytmlbphmbffkdnaa
open Go.RowKit
set_option linter.unusedVariables false

theorem Told.row {w w' : World} {zs : List Int} {v : Value} (h : Own w' w.heap.size v zs) : ∃ ao cap, v = .slice ao zs.length cap ∧ zs.length ≤ cap ∧ Row w' ao zs := by
  obtain ⟨ao, cap, h1, h2, h3, _⟩ := h.row
  exact ⟨ao, cap, h1, h2, h3⟩
end Go.Proofs.Ytmlbphmbffkdnaa
namespace Go.Proofs.Ytmlbphmbffkdnaa
open Go.RowKit
set_option linter.unusedVariables false

/-- the marks 1, 2, 3 .. of a list, the first so many; behind them what was there -/
def marked (zs : List Int) (k : Nat) : List Int := (List.range k).map (fun j => ((j + 1 : Nat) : Int)) ++ zs.drop k
theorem marked_len (zs : List Int) (k : Nat) (h : k ≤ zs.length) : (marked zs k).length = zs.length := by simp [marked]; omega
theorem marked_zero (zs : List Int) : marked zs 0 = zs := by simp [marked]
theorem marked_set (zs : List Int) (k : Nat) (h : k < zs.length) : (marked zs k).set k ((k + 1 : Nat) : Int) = marked zs (k + 1) := by
  unfold marked
  rw [List.set_append, if_neg (by simp)]
  have e : k - ((List.range k).map (fun j => ((j + 1 : Nat) : Int))).length = 0 := by simp
  rw [e, List.drop_eq_getElem_cons h, List.set_cons_zero, List.range_succ, List.map_append, List.append_assoc]
  rfl
theorem marked_map_set (zs : List Int) (k : Nat) (h : k < zs.length) : ((marked zs k).map (Value.int .i64)).set k (.int .i64 ((k : Int) + 1)) = (marked zs (k + 1)).map (Value.int .i64) := by
  rw [← marked_set zs k h, List.map_set]
  congr 1
theorem marked_get (zs : List Int) (j : Nat) (h : j < zs.length) : (marked zs zs.length).getD j 0 = (j : Int) + 1 := by
  unfold marked
  rw [List.getD_eq_getElem?_getD, List.getElem?_append_left (by simpa using h)]
  simp [h]
theorem marked_fits (zs : List Int) (h : zs.length ≤ 1048576) : Fits (marked zs zs.length) := by
  intro z hz
  unfold marked at hz
  simp at hz
  obtain ⟨j, hj, rfl⟩ := hz
  omega

/-- what a marking leaves: the list holds its marks, and no other block is written -/
def Marked (w : World) (base : Nat) (v : Value) (zs : List Int) (e : Ending) (w' : World) : Prop :=
  e = .returned (.int .i64 ((zs.length : Int) + 1)) ∧ Own w' base v (marked zs zs.length) ∧ w.grownBy w' v.ownBlock

set_option maxHeartbeats 1000000 in
theorem c93 (zs : List Int) (base : Nat) (v : Value) (w : World) (hz : zs.length ≤ 1048576) (ho : Own w base v zs) :
    Calls Try.prog 93 #[v, .int .i64 1] w (Marked w base v zs) := by
  have HF := hide (marked_fits zs hz)
  obtain ⟨hf, hown⟩ := ho
  rcases hown.2 with ⟨hv, h0⟩ | ⟨g, cap, cur, hv, -⟩
  · have : zs = [] := List.eq_nil_of_length_eq_zero h0
    subst this
    subst hv
    have HO : Hid (Own w base (.slice none 0 0) (marked [] 0)) := ⟨fun z hz => by simp [marked] at hz, by simpa [marked] using hown⟩
    clear hown hf
    go_enter Try.func93, Try.ntmps93
    go_wp2_with fail
    refine wp_loop_rounds 1 ?_
    rw [rounds_succ]
    go_wp2_with fail
    go_ret
    exact ⟨rfl, unhide HO, World.grownBy.refl _ _⟩
  · subst hv
    have HS := hide hown
    clear hown hf
    go_enter Try.func93, Try.ntmps93
    go_wp2_with fail
    go_loopw [1, 5] (fun kk i wr => ∃ k : Nat, k ≤ zs.length ∧ i = .int .i64 k ∧ kk = .int .i64 ((k : Int) + 1) ∧ wr.ownsRow base 3 1 (.slice (some ⟨g, 0, none⟩) zs.length cap) zs.length ((marked zs k).map (Value.int .i64)) ∧ w.grownBy wr (some g)) (fun _ i _ => zs.length - (intOf i).toNat)
    case atStart => exact ⟨0, Nat.zero_le _, rfl, rfl, by rw [marked_zero]; exact unhide HS, World.grownBy.refl _ _⟩
    case round =>
      obtain ⟨k, hk, rfl, rfl, hown, hg⟩ := hrel
      clear HS
      by_cases hlt : k < zs.length
      · have hold : ∃ u, wr.cell? ⟨g, k, none⟩ = some u := by
          rw [hown.cellAt k (by omega)]
          exact ⟨_, List.getElem?_eq_getElem (by rw [List.length_map, marked_len _ _ hk]; exact hlt)⟩
        obtain ⟨vold, hold⟩ := hold
        have hfr := hown.frozenAt k
        have hst := hown.stored k (.int .i64 ((k : Int) + 1))
        rw [marked_map_set zs k hlt] at hst
        have H1 := hide hst.1
        have H2 := hide (grown_trans hg hst.2)
        clear hst hown hg
        go_wp2_with fail
        go_roundw
        case rel => exact ⟨k + 1, by omega, by go_num, by go_num, unhide H1, unhide H2⟩
        case measure => simp [intOf]; omega
      · have hke : k = zs.length := by omega
        subst hke
        have H1 := hide hown
        have H2 := hide hg
        clear hown hg
        go_wp2_with fail
        go_ret
        exact ⟨rfl, ⟨unhide HF, by rw [marked_len _ _ (Nat.le_refl _)]; exact unhide H1⟩, unhide H2⟩

set_option maxHeartbeats 1000000 in
theorem c102 (zs : List Int) (ao : Option Addr) (n cap : Nat) (w : World) (hn : zs.length = n) (hz : n ≤ 1048576) (hr : Row w ao (marked zs zs.length)) :
    Calls Try.prog 102 #[.slice ao n cap, .int .i64 1] w fun e w' => e = .returned (.int .i64 ((n : Int) + 1)) ∧ w' = w := by
  subst hn
  have hl := marked_len zs zs.length (Nat.le_refl _)
  by_cases h0 : zs = []
  · subst h0
    clear hr hl
    go_enter Try.func102, Try.ntmps102
    go_wp2_with fail
    refine wp_loop_rounds 1 ?_
    rw [rounds_succ]
    go_wp2_with fail
    go_ret
    exact ⟨rfl, rfl⟩
  · obtain ⟨b, off, rfl, hc⟩ := hr.2 (by intro e; rw [e] at hl; simp at hl; exact h0 (List.eq_nil_of_length_eq_zero hl.symm))
    have HC := hide hc
    have HL := hide hl
    clear hr hc hl
    go_enter Try.func102, Try.ntmps102
    go_wp2_with fail
    go_loop [1, 5] (fun kk i => ∃ k : Nat, k ≤ zs.length ∧ i = .int .i64 k ∧ kk = .int .i64 ((k : Int) + 1)) (fun _ i => zs.length - (intOf i).toNat)
    case atStart => exact ⟨0, Nat.zero_le _, rfl, rfl⟩
    case round =>
      obtain ⟨k, hk, rfl, rfl⟩ := hrel
      by_cases hlt : k < zs.length
      · have hcell := unhide HC k (by rw [unhide HL]; exact hlt)
        rw [marked_get zs k hlt] at hcell
        go_wp2_with fail
        go_round
        case rel => exact ⟨k + 1, by omega, by go_num, by go_num⟩
        case measure => simp [intOf]; omega
      · have hke : k = zs.length := by omega
        subst hke
        go_wp2_with fail
        go_ret
        exact ⟨rfl, rfl⟩
end Go.Proofs.Ytmlbphmbffkdnaa
