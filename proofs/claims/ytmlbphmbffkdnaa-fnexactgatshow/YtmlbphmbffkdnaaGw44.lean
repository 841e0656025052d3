/-
  Texts of the proof, what it needs of them: Rise.
-/
import Derived.Test.YtmlbphmbffkdnaaGw41
import Derived.Test.YtmlbphmbffkdnaaGw43
namespace Go.Proofs.Ytmlbphmbffkdnaa
open Go.RowKit Go.Maps Go.Sort Go.Shelf
set_option linter.unusedVariables false
set_option maxRecDepth 100000

theorem shSorts (m : Nat) : AnyZI.SortsIn Try.prog shSorted_ren Fence.wide m :=
  ⟨fun blk off cap ss W hH hblk hsz => callsIn_wide.2 (AnyM.slices_Sort_int shSort blk off cap ss W hH hblk hsz),
   fun p cap W => callsIn_wide.2 (AnyM.slices_Sort_int_none shSort p cap W)⟩

set_option maxHeartbeats 1000000 in
theorem risingMap {H : Type} (b nn : Nat) (D0 : DataW H) (R : Value → Option (DataW H × List MemPlace)) (w : World) (hown : w.ownsMap Try.prog 3 R b nn D0) (hmax : Maps.size D0 ≤ maxLen) (hbytes : Maps.size D0 * 8 ≤ 140737488355328) :
    Calls Try.prog 147 #[.map (some b)] w fun e w' => ∃ (v : Value) (ss : List Int), e = .returned v ∧ ss.Perm (intKeys D0) ∧
      w'.ownsRow w.heap.size 3 1 v ss.length ((ss.mergeSort (fun x y => decide (x ≤ y))).map encZ) ∧ (v = .slice none 0 0 ↔ ss = []) ∧ Below w.heap.size w w' := by
  refine (callsIn_wide (n := 6)).1 ?_
  have hbl := hown.lt
  have hseq : SeqGives Fence.wide 2 Try.prog 231 #[.pointer (some ⟨w.heap.size, 0, none⟩)] encZ (fun ss => ss.Perm (intKeys D0)) (Maps.size D0) (w.alloc (.cells #[.map (some b)] 155)) :=
    AnyZI.keys_gives (ρ := shKeys_ren) { shKeys with } Fence.wide _ trivial rfl (by omega) w.heap.size b nn D0 _ (by simp) (by simp) (by
      obtain ⟨es, clock, hb, Ft, hs, hD⟩ := hown
      exact ⟨es, clock, (Below.heap_alloc _ _ b hbl).trans hb, Ft, hs, hD⟩)
  have cK : ∀ mb W, CallsIn Fence.wide 5 Try.prog 198 #[.map mb] W fun e w' => e = .returned (.func (.func 231) #[] #[.pointer (some ⟨W.heap.size, 0, none⟩)]) ∧ w' = W.alloc (.cells #[.map mb] 155) := fun mb W => AnyZI.keys_in shKeys Fence.wide 5 trivial rfl mb W
  have cS := AnyZI.sorted_in shSorted Fence.wide 5 trivial trivial trivial trivial rfl (by omega) (shSorts _) (enters_of Try.func230 (by kernel_rfl) rfl) 231 #[.pointer (some ⟨w.heap.size, 0, none⟩)] trivial (enters_of Try.func231 (by kernel_rfl) rfl) _ _ hmax hbytes _ hseq
  change CallsIn _ _ Try.prog 197 _ _ _ at cS
  have hfK : Fence.wide.fn 198 := trivial
  have hfS : Fence.wide.fn 197 := trivial
  refine callsIn_of_wp Try.func147 rfl trivial ?_ rfl
  simp only [Try.ntmps147, List.size_toArray, List.length_cons, List.length_nil, Nat.reduceAdd, Nat.reduceSub, Array.replicate_succ, Array.replicate_zero, List.push_toArray, List.append_toArray, List.nil_append, List.cons_append]
  gi_wp2_with (first
    | (gi_at_call 198; refine (cK _ _).mono ?_; rintro e w' ⟨rfl, rfl⟩)
    | (gi_at_call 197; refine cS.mono ?_; rintro e w' ⟨v, ss, rfl, hS, hrow, hnil, hb⟩))
  go_ret
  exact ⟨v, ss, rfl, hS, ownsRow_base_a hrow (by simp), hnil, ((Below.refl _ w).alloc (Nat.le_refl _) _).trans (hb.mono (by simp))⟩

theorem c147 (b : Nat) (zs : List Int) (w : World) (hs : SetIs w b zs) (hzl : zs.length ≤ 10000000) :
    Calls Try.prog 147 #[.map (some b)] w fun e w' => ∃ v, e = .returned v ∧ Own w' w.heap.size v (riseOf zs) ∧ Below w.heap.size w w' := by
  have hsz : Maps.size (setD zs) ≤ zs.length := World.ownsMap.size_le hs
  refine (risingMap b zs.length (setD zs) _ w hs (by unfold maxLen; omega) (by omega)).mono ?_
  rintro e w1 ⟨v, ss, rfl, hp, hrow, -, hb⟩
  refine ⟨v, rfl, ⟨fun z hz => ?_, ?_⟩, hb⟩
  · have h1 := intKeys_wf hs Try.underlying3 z ((perm_rise zs).mem_iff.1 hz)
    exact wf64 h1
  · have e1 := sort_rise hp
    have e2 : ss.length = (riseOf zs).length := by rw [← e1, List.length_mergeSort]
    rw [e1, e2] at hrow
    exact hrow
end Go.Proofs.Ytmlbphmbffkdnaa
