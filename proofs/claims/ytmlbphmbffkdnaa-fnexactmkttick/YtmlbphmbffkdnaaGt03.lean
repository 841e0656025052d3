/-
  Texts of the proof, what it needs of them: Mix.
-/
import Derived.BigQuiet
import Derived.Deep.QuietTactic
import Derived.Test.YtmlbphmbffkdnaaGt00
import Derived.Test.YtmlbphmbffkdnaaProg
import Derived.WalkKit
import Derived.WalkLawsBesides
import Derived.WalkSpells
namespace Go.Proofs.Ytmlbphmbffkdnaa
open Go.RowKit

theorem ret_int {k : IntKind} {a b : Int} (h : a = b) : Ending.returned (.int k a) = .returned (.int k b) := by rw [h]
theorem hide {p : Prop} (h : p) : Hid p := h
theorem unhide {p : Prop} (h : Hid p) : p := h
theorem ret_bool {a b : Bool} (h : a = b) : Ending.returned (.bool a) = .returned (.bool b) := by rw [h]

set_option maxHeartbeats 400000 in
theorem c109 (n a b : Int) (w : World) : Calls Try.prog 109 #[.int .i64 n, .int .i64 a, .int .i64 b] w fun e w' => e = .returned (.bool (decide (a ≤ n ∧ n ≤ b))) ∧ w' = w := by
  by_cases h0 : a ≤ n
  · go_enter Try.func109, Try.ntmps109
    go_wp2
    go_ret
    exact ⟨ret_bool (by simp [h0]), rfl⟩
  · have h1 : decide (a ≤ n) = false := by simpa using h0
    go_enter Try.func109, Try.ntmps109
    go_wp2
    go_ret
    exact ⟨ret_bool (by simp), rfl⟩

end Go.Proofs.Ytmlbphmbffkdnaa
namespace Go.Proofs.Ytmlbphmbffkdnaa
open Go.RowKit

/-- A slice of ints in memory: where there are elements, it leads to their cells, and each is an int. -/
def Row (w : World) (ao : Option Addr) (zs : List Int) : Prop :=
  (∀ z ∈ zs, -9223372036854775808 ≤ z ∧ z ≤ 9223372036854775807) ∧
  (zs ≠ [] → ∃ b off, ao = some ⟨b, off, none⟩ ∧ ∀ k, k < zs.length → w.cell? ⟨b, off + k, none⟩ = some (.int .i64 (zs.getD k 0)))

end Go.Proofs.Ytmlbphmbffkdnaa
namespace Go.Proofs.Ytmlbphmbffkdnaa
open Go.RowKit

end Go.Proofs.Ytmlbphmbffkdnaa
namespace Go.Proofs.Ytmlbphmbffkdnaa
open Go.RowKit

theorem Try.info3 : (Try.prog.info? 3).map (fun i => (i.zero, i.size, i.bytes)) = some (some (.int .i64 0), 1, 8) := by kernel_rfl

/-- An int fits into 64 bits. -/
def Fits (zs : List Int) : Prop := ∀ z ∈ zs, -9223372036854775808 ≤ z ∧ z ≤ 9223372036854775807

/-- The slice v is the call's own, from block 'base' on, and holds these numbers. -/
def Own (w : World) (base : Nat) (v : Value) (zs : List Int) : Prop :=
  Fits zs ∧ w.ownsRow base 3 1 v zs.length (zs.map (Value.int .i64))

theorem cells_of_own {w : World} {base g n cap : Nat} {zs : List Int} (h : w.ownsRow base 3 1 (.slice (some ⟨g, 0, none⟩) n cap) n (zs.map (Value.int .i64))) (hn : zs.length = n) :
    ∀ k, k < n → w.cell? ⟨g, 0 + k, none⟩ = some (.int .i64 (zs.getD k 0)) := by
  intro k hk
  rw [Nat.zero_add, h.cellAt k (by omega)]
  simp [List.getD, List.getElem?_eq_getElem (show k < zs.length by omega)]

/-- What is owned can be read. -/
theorem Own.row {w : World} {base : Nat} {v : Value} {zs : List Int} (h : Own w base v zs) :
    ∃ ao cap, v = .slice ao zs.length cap ∧ zs.length ≤ cap ∧ Row w ao zs ∧ (∀ a, ao = some a → base ≤ a.block ∧ a.block < w.heap.size) := by
  obtain ⟨hf, ho⟩ := h
  have hlt := ho.lt
  rcases ho.2 with ⟨hv, hz⟩ | ⟨g, cap, cur, hv, hb, hh, hnc, hcm, hcs, htake⟩
  · subst hv
    have : zs = [] := List.eq_nil_of_length_eq_zero hz
    subst this
    exact ⟨none, 0, rfl, Nat.le_refl _, ⟨hf, fun h => absurd rfl h⟩, fun a h => by cases h⟩
  · subst hv
    refine ⟨some ⟨g, 0, none⟩, cap, rfl, hnc, ⟨hf, fun _ => ⟨g, 0, rfl, cells_of_own ho rfl⟩⟩, ?_⟩
    intro a ha
    cases ha
    exact hlt g rfl

theorem Row.below {w w' : World} {ao : Option Addr} {zs : List Int} (h : Row w ao zs) {B : Nat} (hb : Below B w w') (hB : w.heap.size ≤ B) : Row w' ao zs := by
  refine ⟨h.1, fun hne => ?_⟩
  obtain ⟨b, off, rfl, hc⟩ := h.2 hne
  refine ⟨b, off, rfl, fun k hk => ?_⟩
  have h1 := hc k hk
  have h2 := World.block_lt_of_cell? w _ h1
  rw [hb.cell (p := ⟨b, off + k, none⟩) (Nat.lt_of_lt_of_le h2 hB)]
  exact h1
theorem Row.kept {w w' : World} {ao : Option Addr} {zs : List Int} {row : Option Nat} (h : Row w ao zs) (hg : w.grownBy w' row) (hne : ∀ a, ao = some a → some a.block ≠ row) : Row w' ao zs := by
  refine ⟨h.1, fun hne' => ?_⟩
  obtain ⟨b, off, rfl, hc⟩ := h.2 hne'
  exact ⟨b, off, rfl, fun k hk => hg.cell (hc k hk) (hne ⟨b, off, none⟩ rfl)⟩

/-- the first so many, as Go cuts them -/
theorem Row.take {w : World} {ao : Option Addr} {zs : List Int} (h : Row w ao zs) (k : Nat) : Row w ao (zs.take k) := by
  refine ⟨fun z hz => h.1 z (List.mem_of_mem_take hz), fun hne => ?_⟩
  have hz : zs ≠ [] := by intro e; subst e; simp at hne
  obtain ⟨b, off, rfl, hc⟩ := h.2 hz
  refine ⟨b, off, rfl, fun j hj => ?_⟩
  simp only [List.length_take] at hj
  rw [hc j (by omega)]
  simp [List.getD, show j < k by omega]
theorem Row.drop {w : World} {b off : Nat} {zs : List Int} (h : Row w (some ⟨b, off, none⟩) zs) (k : Nat) : Row w (some ⟨b, off + k, none⟩) (zs.drop k) := by
  refine ⟨fun z hz => h.1 z (List.mem_of_mem_drop hz), fun hne => ?_⟩
  have hz : zs ≠ [] := by intro e; subst e; simp at hne
  obtain ⟨b', off', e, hc⟩ := h.2 hz
  simp only [Option.some.injEq, Addr.mk.injEq, and_true] at e
  obtain ⟨rfl, rfl⟩ := e
  refine ⟨b, off + k, rfl, fun j hj => ?_⟩
  simp only [List.length_drop] at hj
  rw [Nat.add_assoc, hc (k + j) (by omega)]
  simp [List.getD]

def madeTo (zs : List Int) (k : Nat) : List Int := zs.take k ++ List.replicate (zs.length - k) 0
theorem madeTo_set (zs : List Int) (k : Nat) (h : k < zs.length) : (madeTo zs k).set k (zs.getD k 0) = madeTo zs (k + 1) := by
  unfold madeTo
  rw [List.set_append, if_neg (by simp; omega), Tm.take_snoc zs k h]
  have e : zs.length - k = (zs.length - (k + 1)) + 1 := by omega
  have e2 : k - (zs.take k).length = 0 := by simp; omega
  rw [e, List.replicate_succ, e2, List.set_cons_zero, List.append_assoc]
  rfl
theorem madeTo_map_set (zs : List Int) (k : Nat) (h : k < zs.length) : ((madeTo zs k).map (Value.int .i64)).set k (.int .i64 (zs.getD k 0)) = (madeTo zs (k + 1)).map (Value.int .i64) := by
  rw [← madeTo_set zs k h, List.map_set]
theorem madeTo_zero (zs : List Int) : (madeTo zs 0).map (Value.int .i64) = List.replicate zs.length (.int .i64 0) := by simp [madeTo]
theorem madeTo_all (zs : List Int) : madeTo zs zs.length = zs := by simp [madeTo]

set_option maxHeartbeats 1000000 in
theorem c89 (zs : List Int) (ao : Option Addr) (n cap : Nat) (w : World) (hn : zs.length = n) (hm : n ≤ 1048576) (hr : Row w ao zs) :
    Calls Try.prog 89 #[.slice ao n cap] w fun e w' => e = .returned (.slice (some ⟨w.heap.size, 0, none⟩) n n) ∧ Own w' w.heap.size (.slice (some ⟨w.heap.size, 0, none⟩) n n) zs ∧ Below w.heap.size w w' := by
  subst hn
  obtain ⟨hf, hr⟩ := hr
  have HF : Hid (Fits zs) := hf
  clear hf
  obtain ⟨i0, hi, hz0, hz1, hz2⟩ := info_parts Try.info3
  go_enter Try.func89, Try.ntmps89
  go_wp2_with (first | (at_make; refine wpList_make_full _ rfl _ _ 23 rfl w.heap.size 3 i0 (.int .i64 0) 1 Try.underlying23 hi hz0 hz1 _ _ _ _ zs.length rfl rfl rfl rfl (by rw [hz2]; omega) (by unfold maxLen; omega) (Nat.le_refl _) ?_; intro w1 hown hgrow) | fail)
  have hb1 : Below w.heap.size w w1 := (Below.refl _ _).grown hgrow (Nat.le_refl _) (fun k hk => by cases hk)
  have hown0 : w1.ownsRow w.heap.size 3 1 (.slice (some ⟨w.heap.size, 0, none⟩) zs.length zs.length) zs.length ((madeTo zs 0).map (Value.int .i64)) := by
    rw [madeTo_zero]
    have e : (madeCells (Value.int IntKind.i64 0).cells (zs.length * 1)).toList = List.replicate zs.length (.int .i64 0) := by
      rw [Nat.mul_one]; exact toList_madeCells_one _ _
    rw [← e]; exact hown
  clear hown hgrow
  go_loopw [4] (fun i wr => ∃ k : Nat, k ≤ zs.length ∧ i = .int .i64 k ∧ wr.ownsRow w.heap.size 3 1 (.slice (some ⟨w.heap.size, 0, none⟩) zs.length zs.length) zs.length ((madeTo zs k).map (Value.int .i64)) ∧ Below w.heap.size w wr) (fun i _ => zs.length - (intOf i).toNat)
  case atStart => exact ⟨0, Nat.zero_le _, rfl, hown0, hb1⟩
  case round =>
    obtain ⟨k, hk, rfl, hown, hbel⟩ := hrel
    clear hown0 hb1
    by_cases hlt : k < zs.length
    · obtain ⟨b, off, rfl, hc⟩ := hr (by intro e; subst e; simp at hlt)
      have hck := hc k hlt
      have hbl := World.block_lt_of_cell? w _ hck
      have hcell : wr.cell? ⟨b, off + k, none⟩ = some (.int .i64 (zs.getD k 0)) := (hbel.cell (p := ⟨b, off + k, none⟩) hbl).trans hck
      have hold : ∃ v, wr.cell? ⟨w.heap.size, k, none⟩ = some v := by
        rw [hown.cellAt k (by omega)]
        exact ⟨_, List.getElem?_eq_getElem (by simp [madeTo]; omega)⟩
      obtain ⟨vold, hold⟩ := hold
      have hfr := hown.frozenAt k
      have hst := hown.stored k (.int .i64 (zs.getD k 0))
      rw [madeTo_map_set zs k hlt] at hst
      have hb2 := hbel.setCell (p := ⟨w.heap.size, k, none⟩) (Nat.le_refl _) (.int .i64 (zs.getD k 0))
      have H1 := hide hst.1
      clear hst hown hc hck hr hbl hbel
      generalize zs.getD k 0 = x at *
      have HB : Hid (Below w.heap.size w (wr.setCell ⟨w.heap.size, k, none⟩ (.int .i64 x))) := hb2
      clear hb2
      go_wp2_with fail
      go_roundw
      case rel => exact ⟨k + 1, by omega, by go_num, unhide H1, HB.out⟩
      case measure => simp [intOf]; omega
    · have hke : k = zs.length := by omega
      subst hke
      rw [madeTo_all] at hown
      have H1 := hide hown
      clear hown hr
      go_wp2_with fail
      go_ret
      exact ⟨rfl, ⟨HF.out, unhide H1⟩, hbel⟩
end Go.Proofs.Ytmlbphmbffkdnaa
