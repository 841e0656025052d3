/-
  Texts of the proof, what it needs of them: Mkg.
-/
import Derived.Test.YtmlbphmbffkdnaaGw13
namespace Go.Proofs.Ytmlbphmbffkdnaa
open Go.RowKit
set_option linter.unusedVariables false
set_option maxRecDepth 100000

/-- the mark of an element -/
def mkgE (c j : Nat) : Tm.Ent := (4 * (j : Int) + (c : Int), 4 * (j : Int) + (c : Int) + 1, 4 * (j : Int) + (c : Int) + 1 + 1, 4 * (j : Int) + (c : Int) + 1 + 1 + 1)
/-- the mark of an element -/
def mkgD (c j : Nat) : Tm.Deal := (5 * (j : Int) + (c : Int), 5 * (j : Int) + (c : Int) + 1, 5 * (j : Int) + (c : Int) + 1 + 1, 5 * (j : Int) + (c : Int) + 1 + 1 + 1, 5 * (j : Int) + (c : Int) + 1 + 1 + 1 + 1)
/-- the marks from c on of a list, the first so many; behind them what was there -/
def markedg (c : Nat) (zs : List Int) (k : Nat) : List Int := (List.range k).map (fun j => ((j + c : Nat) : Int)) ++ zs.drop k
theorem markedg_len (c : Nat) (zs : List Int) (k : Nat) (h : k ≤ zs.length) : (markedg c zs k).length = zs.length := by simp [markedg]; omega
theorem markedg_zero (c : Nat) (zs : List Int) : markedg c zs 0 = zs := by simp [markedg]
theorem markedg_set (c : Nat) (zs : List Int) (k : Nat) (h : k < zs.length) : (markedg c zs k).set k ((k + c : Nat) : Int) = markedg c zs (k + 1) := by
  unfold markedg
  rw [List.set_append, if_neg (by simp)]
  have e : k - ((List.range k).map (fun j => ((j + c : Nat) : Int))).length = 0 := by simp
  rw [e, List.drop_eq_getElem_cons h, List.set_cons_zero, List.range_succ, List.map_append, List.append_assoc]
  rfl
theorem markedg_map_set (c : Nat) (zs : List Int) (k : Nat) (h : k < zs.length) : ((markedg c zs k).map (Value.int .i64)).set k (.int .i64 ((k : Int) + (c : Int))) = (markedg c zs (k + 1)).map (Value.int .i64) := by
  rw [← markedg_set c zs k h, List.map_set]
  congr 1
theorem markedg_fits (c : Nat) (zs : List Int) (hcc : c ≤ 100000000) (h : zs.length ≤ 1048576) : Fits (markedg c zs zs.length) := by
  intro z hz
  unfold markedg at hz
  simp at hz
  obtain ⟨j, hj, rfl⟩ := hz
  omega

/-- what a marking leaves: the list holds its marks, and no other block is written -/
def Markedg (w : World) (base c : Nat) (v : Value) (zs : List Int) (e : Ending) (w' : World) : Prop :=
  e = .returned (.int .i64 ((zs.length : Int) + (c : Int))) ∧ Own w' base v (markedg c zs zs.length) ∧ w.grownBy w' v.ownBlock

set_option maxHeartbeats 1000000 in
theorem c93g (zs : List Int) (base c : Nat) (v : Value) (w : World) (hz : zs.length ≤ 1048576) (hcc : c ≤ 100000000) (ho : Own w base v zs) :
    Calls Try.prog 93 #[v, .int .i64 (c : Int)] w (Markedg w base c v zs) := by
  have HF := hide (markedg_fits c zs hcc hz)
  obtain ⟨hf, hown⟩ := ho
  rcases hown.2 with ⟨hv, h0⟩ | ⟨g, cap, cur, hv, -⟩
  · have : zs = [] := List.eq_nil_of_length_eq_zero h0
    subst this
    subst hv
    have HO : Hid (Own w base (.slice none 0 0) (markedg c [] 0)) := ⟨fun z hz => by simp [markedg] at hz, by simpa [markedg] using hown⟩
    clear hown hf
    go_enter Try.func93, Try.ntmps93
    go_wp2_with fail
    refine wp_loop_rounds 1 ?_
    rw [rounds_succ]
    go_wp2_with fail
    go_ret
    exact ⟨by simp, unhide HO, World.grownBy.refl _ _⟩
  · subst hv
    have HS := hide hown
    clear hown hf
    go_enter Try.func93, Try.ntmps93
    go_wp2_with fail
    go_loopw [1, 5] (fun kk i wr => ∃ k : Nat, k ≤ zs.length ∧ i = .int .i64 k ∧ kk = .int .i64 ((k : Int) + (c : Int)) ∧ wr.ownsRow base 3 1 (.slice (some ⟨g, 0, none⟩) zs.length cap) zs.length ((markedg c zs k).map (Value.int .i64)) ∧ w.grownBy wr (some g)) (fun _ i _ => zs.length - (intOf i).toNat)
    case atStart => exact ⟨0, Nat.zero_le _, rfl, by simp, by rw [markedg_zero]; exact unhide HS, World.grownBy.refl _ _⟩
    case round =>
      obtain ⟨k, hk, rfl, rfl, hown, hg⟩ := hrel
      clear HS
      by_cases hlt : k < zs.length
      · have hold : ∃ u, wr.cell? ⟨g, k, none⟩ = some u := by
          rw [hown.cellAt k (by omega)]
          exact ⟨_, List.getElem?_eq_getElem (by rw [List.length_map, markedg_len _ _ _ hk]; exact hlt)⟩
        obtain ⟨vold, hold⟩ := hold
        have hfr := hown.frozenAt k
        have hst := hown.stored k (.int .i64 ((k : Int) + (c : Int)))
        rw [markedg_map_set c zs k hlt] at hst
        have H1 := hide hst.1
        have H2 := hide (grown_trans hg hst.2)
        clear hst hown hg
        go_wp2_with fail
        go_roundw
        case rel => exact ⟨k + 1, by omega, by go_num, by go_num, unhide H1, unhide H2⟩
        case measure => simp [intOf]; omega
      · have hke : k = zs.length := by omega
        subst hke
        have H1 := hide hown
        have H2 := hide hg
        clear hown hg
        go_wp2_with fail
        go_ret
        exact ⟨rfl, ⟨unhide HF, by rw [markedg_len _ _ _ (Nat.le_refl _)]; exact unhide H1⟩, unhide H2⟩

end Go.Proofs.Ytmlbphmbffkdnaa
