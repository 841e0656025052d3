/-
  The walks of the laws' own helpers that mark a list and see that it holds its marks.
-/
import Derived.Test.YtjdnengmllamcaaHelps
namespace Go.Proofs.Ytjdnengmllamcaa
open Go.RowKit
set_option linter.unusedVariables false

/-- the marks 1, 2, 3 .. of a list, the first so many; behind them what was there -/
def marked (zs : List Int) (k : Nat) : List Int := (List.range k).map (fun j => ((j + 1 : Nat) : Int)) ++ zs.drop k
theorem marked_len (zs : List Int) (k : Nat) (h : k ≤ zs.length) : (marked zs k).length = zs.length := by simp [marked]; omega
theorem marked_zero (zs : List Int) : marked zs 0 = zs := by simp [marked]
theorem marked_set (zs : List Int) (k : Nat) (h : k < zs.length) : (marked zs k).set k ((k + 1 : Nat) : Int) = marked zs (k + 1) := by
  unfold marked
  rw [List.set_append, if_neg (by simp)]
  have e : k - ((List.range k).map (fun j => ((j + 1 : Nat) : Int))).length = 0 := by simp
  rw [e, List.drop_eq_getElem_cons h, List.set_cons_zero, List.range_succ, List.map_append, List.append_assoc]
  rfl
theorem marked_map_set (zs : List Int) (k : Nat) (h : k < zs.length) : ((marked zs k).map (Value.int .i64)).set k (.int .i64 ((k : Int) + 1)) = (marked zs (k + 1)).map (Value.int .i64) := by
  rw [← marked_set zs k h, List.map_set]
  congr 1
theorem marked_get (zs : List Int) (j : Nat) (h : j < zs.length) : (marked zs zs.length).getD j 0 = (j : Int) + 1 := by
  unfold marked
  rw [List.getD_eq_getElem?_getD, List.getElem?_append_left (by simpa using h)]
  simp [h]
theorem marked_fits (zs : List Int) (h : zs.length ≤ 1048576) : Fits (marked zs zs.length) := by
  intro z hz
  unfold marked at hz
  simp at hz
  obtain ⟨j, hj, rfl⟩ := hz
  omega

/-- what a marking leaves: the list holds its marks, and no other block is written -/
def Marked (w : World) (base : Nat) (v : Value) (zs : List Int) (e : Ending) (w' : World) : Prop :=
  e = .returned (.int .i64 ((zs.length : Int) + 1)) ∧ Own w' base v (marked zs zs.length) ∧ w.grownBy w' v.ownBlock

set_option maxHeartbeats 1000000 in
theorem c101 (zs : List Int) (base : Nat) (v : Value) (w : World) (hz : zs.length ≤ 1048576) (ho : Own w base v zs) :
    Calls Try.prog 101 #[v, .int .i64 1] w (Marked w base v zs) := by
  have HF := hide (marked_fits zs hz)
  obtain ⟨hf, hown⟩ := ho
  rcases hown.2 with ⟨hv, h0⟩ | ⟨g, cap, cur, hv, -⟩
  · have : zs = [] := List.eq_nil_of_length_eq_zero h0
    subst this
    subst hv
    have HO : Hid (Own w base (.slice none 0 0) (marked [] 0)) := ⟨fun z hz => by simp [marked] at hz, by simpa [marked] using hown⟩
    clear hown hf
    go_enter Try.func101, Try.ntmps101
    go_wp2_with fail
    refine wp_loop_rounds 1 ?_
    rw [rounds_succ]
    go_wp2_with fail
    go_ret
    exact ⟨rfl, unhide HO, World.grownBy.refl _ _⟩
  · subst hv
    have HS := hide hown
    clear hown hf
    go_enter Try.func101, Try.ntmps101
    go_wp2_with fail
    go_loopw [1, 5] (fun kk i wr => ∃ k : Nat, k ≤ zs.length ∧ i = .int .i64 k ∧ kk = .int .i64 ((k : Int) + 1) ∧ wr.ownsRow base 3 1 (.slice (some ⟨g, 0, none⟩) zs.length cap) zs.length ((marked zs k).map (Value.int .i64)) ∧ w.grownBy wr (some g)) (fun _ i _ => zs.length - (intOf i).toNat)
    case atStart => exact ⟨0, Nat.zero_le _, rfl, rfl, by rw [marked_zero]; exact unhide HS, World.grownBy.refl _ _⟩
    case round =>
      obtain ⟨k, hk, rfl, rfl, hown, hg⟩ := hrel
      clear HS
      by_cases hlt : k < zs.length
      · have hold : ∃ u, wr.cell? ⟨g, k, none⟩ = some u := by
          rw [hown.cellAt k (by omega)]
          exact ⟨_, List.getElem?_eq_getElem (by rw [List.length_map, marked_len _ _ hk]; exact hlt)⟩
        obtain ⟨vold, hold⟩ := hold
        have hfr := hown.frozenAt k
        have hst := hown.stored k (.int .i64 ((k : Int) + 1))
        rw [marked_map_set zs k hlt] at hst
        have H1 := hide hst.1
        have H2 := hide (grown_trans hg hst.2)
        clear hst hown hg
        go_wp2_with fail
        go_roundw
        case rel => exact ⟨k + 1, by omega, by go_num, by go_num, unhide H1, unhide H2⟩
        case measure => simp [intOf]; omega
      · have hke : k = zs.length := by omega
        subst hke
        have H1 := hide hown
        have H2 := hide hg
        clear hown hg
        go_wp2_with fail
        go_ret
        exact ⟨rfl, ⟨unhide HF, by rw [marked_len _ _ (Nat.le_refl _)]; exact unhide H1⟩, unhide H2⟩

set_option maxHeartbeats 1000000 in
theorem c102 (zs : List Int) (ao : Option Addr) (n cap : Nat) (w : World) (hn : zs.length = n) (hz : n ≤ 1048576) (hr : Row w ao (marked zs zs.length)) :
    Calls Try.prog 102 #[.slice ao n cap, .int .i64 1] w fun e w' => e = .returned (.int .i64 ((n : Int) + 1)) ∧ w' = w := by
  subst hn
  have hl := marked_len zs zs.length (Nat.le_refl _)
  by_cases h0 : zs = []
  · subst h0
    clear hr hl
    go_enter Try.func102, Try.ntmps102
    go_wp2_with fail
    refine wp_loop_rounds 1 ?_
    rw [rounds_succ]
    go_wp2_with fail
    go_ret
    exact ⟨rfl, rfl⟩
  · obtain ⟨b, off, rfl, hc⟩ := hr.2 (by intro e; rw [e] at hl; simp at hl; exact h0 (List.eq_nil_of_length_eq_zero hl.symm))
    have HC := hide hc
    have HL := hide hl
    clear hr hc hl
    go_enter Try.func102, Try.ntmps102
    go_wp2_with fail
    go_loop [1, 5] (fun kk i => ∃ k : Nat, k ≤ zs.length ∧ i = .int .i64 k ∧ kk = .int .i64 ((k : Int) + 1)) (fun _ i => zs.length - (intOf i).toNat)
    case atStart => exact ⟨0, Nat.zero_le _, rfl, rfl⟩
    case round =>
      obtain ⟨k, hk, rfl, rfl⟩ := hrel
      by_cases hlt : k < zs.length
      · have hcell := unhide HC k (by rw [unhide HL]; exact hlt)
        rw [marked_get zs k hlt] at hcell
        go_wp2_with fail
        go_round
        case rel => exact ⟨k + 1, by omega, by go_num, by go_num⟩
        case measure => simp [intOf]; omega
      · have hke : k = zs.length := by omega
        subst hke
        go_wp2_with fail
        go_ret
        exact ⟨rfl, rfl⟩
end Go.Proofs.Ytjdnengmllamcaa
