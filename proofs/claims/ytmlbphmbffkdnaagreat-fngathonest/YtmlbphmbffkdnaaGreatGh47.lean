/-
  Texts of the proof, what it needs of them: Rise, L9p.
-/
import Derived.Test.YtmlbphmbffkdnaaGreatGh09
import Derived.Test.YtmlbphmbffkdnaaGreatGh45
import Derived.Test.YtmlbphmbffkdnaaGreatGh46
namespace Go.Proofs.YtmlbphmbffkdnaaGreat
open Go.RowKit Go.Maps Go.Sort Go.Shelf
set_option linter.unusedVariables false
set_option maxRecDepth 100000

theorem shSorts (m : Nat) : AnyZI.SortsIn Tryz.prog shSorted_ren Fence.wide m :=
  ⟨fun blk off cap ss W hH hblk hsz => callsIn_wide.2 (AnyM.slices_Sort_int shSort blk off cap ss W hH hblk hsz),
   fun p cap W => callsIn_wide.2 (AnyM.slices_Sort_int_none shSort p cap W)⟩

set_option maxHeartbeats 1000000 in
theorem risingMap {H : Type} (b nn : Nat) (D0 : DataW H) (R : Value → Option (DataW H × List MemPlace)) (w : World) (hown : w.ownsMap Tryz.prog 3 R b nn D0) (hmax : Maps.size D0 ≤ maxLen) (hbytes : Maps.size D0 * 8 ≤ 140737488355328) :
    Calls Tryz.prog 38 #[.map (some b)] w fun e w' => ∃ (v : Value) (ss : List Int), e = .returned v ∧ ss.Perm (intKeys D0) ∧
      w'.ownsRow w.heap.size 3 1 v ss.length ((ss.mergeSort (fun x y => decide (x ≤ y))).map encZ) ∧ (v = .slice none 0 0 ↔ ss = []) ∧ Below w.heap.size w w' := by
  refine (callsIn_wide (n := 6)).1 ?_
  have hbl := hown.lt
  have hseq : SeqGives Fence.wide 2 Tryz.prog 105 #[.pointer (some ⟨w.heap.size, 0, none⟩)] encZ (fun ss => ss.Perm (intKeys D0)) (Maps.size D0) (w.alloc (.cells #[.map (some b)] 63)) :=
    AnyZI.keys_gives (ρ := shKeys_ren) { shKeys with } Fence.wide _ trivial rfl (by omega) w.heap.size b nn D0 _ (by simp) (by simp) (by
      obtain ⟨es, clock, hb, Ft, hs, hD⟩ := hown
      exact ⟨es, clock, (Below.heap_alloc _ _ b hbl).trans hb, Ft, hs, hD⟩)
  have cK : ∀ mb W, CallsIn Fence.wide 5 Tryz.prog 78 #[.map mb] W fun e w' => e = .returned (.func (.func 105) #[] #[.pointer (some ⟨W.heap.size, 0, none⟩)]) ∧ w' = W.alloc (.cells #[.map mb] 63) := fun mb W => AnyZI.keys_in shKeys Fence.wide 5 trivial rfl mb W
  have cS := AnyZI.sorted_in shSorted Fence.wide 5 trivial trivial trivial trivial rfl (by omega) (shSorts _) (enters_of Tryz.func104 (by kernel_rfl) rfl) 105 #[.pointer (some ⟨w.heap.size, 0, none⟩)] trivial (enters_of Tryz.func105 (by kernel_rfl) rfl) _ _ hmax hbytes _ hseq
  change CallsIn _ _ Tryz.prog 77 _ _ _ at cS
  have hfK : Fence.wide.fn 78 := trivial
  have hfS : Fence.wide.fn 77 := trivial
  refine callsIn_of_wp Tryz.func38 rfl trivial ?_ rfl
  simp only [Tryz.ntmps38, List.size_toArray, List.length_cons, List.length_nil, Nat.reduceAdd, Nat.reduceSub, Array.replicate_succ, Array.replicate_zero, List.push_toArray, List.append_toArray, List.nil_append, List.cons_append]
  gi_wp2_with (first
    | (gi_at_call 78; refine (cK _ _).mono ?_; rintro e w' ⟨rfl, rfl⟩)
    | (gi_at_call 77; refine cS.mono ?_; rintro e w' ⟨v, ss, rfl, hS, hrow, hnil, hb⟩))
  go_ret
  exact ⟨v, ss, rfl, hS, ownsRow_base_a hrow (by simp), hnil, ((Below.refl _ w).alloc (Nat.le_refl _) _).trans (hb.mono (by simp))⟩

theorem c38 (b : Nat) (zs : List Int) (w : World) (hs : SetIs w b zs) (hzl : zs.length ≤ 10000000) :
    Calls Tryz.prog 38 #[.map (some b)] w fun e w' => ∃ v, e = .returned v ∧ Own w' w.heap.size v (riseOf zs) ∧ Below w.heap.size w w' := by
  have hsz : Maps.size (setD zs) ≤ zs.length := World.ownsMap.size_le hs
  refine (risingMap b zs.length (setD zs) _ w hs (by unfold maxLen; omega) (by omega)).mono ?_
  rintro e w1 ⟨v, ss, rfl, hp, hrow, -, hb⟩
  refine ⟨v, rfl, ⟨fun z hz => ?_, ?_⟩, hb⟩
  · have h1 := intKeys_wf hs Tryz.underlying3 z ((perm_rise zs).mem_iff.1 hz)
    exact wf64 h1
  · have e1 := sort_rise hp
    have e2 : ss.length = (riseOf zs).length := by rw [← e1, List.length_mergeSort]
    rw [e1, e2] at hrow
    exact hrow
end Go.Proofs.YtmlbphmbffkdnaaGreat
namespace Go.Proofs.YtmlbphmbffkdnaaGreat
open Go.RowKit
set_option linter.unusedVariables false
set_option maxRecDepth 100000

theorem put_round {zs : List Int} {k : Nat} {x : Int} (h : zs[k]? = some x) : zs.take (k + 1) = zs.take k ++ [x] := by
  obtain ⟨h1, rfl⟩ := List.getElem?_eq_some_iff.1 h
  rw [List.take_succ_eq_append_getElem h1]
def PutS (t : Int) (l out : List Int) (b : Bool) : Prop := (b = false ∧ out = l ∧ ∀ z ∈ l, ¬ t < z) ∨ (b = true ∧ out = putI t l ∧ ∃ z ∈ l, t < z)
theorem puts_len {t : Int} {l out : List Int} {b : Bool} (h : PutS t l out b) : out.length ≤ l.length + 1 := by
  rcases h with ⟨_, rfl, _⟩ | ⟨_, rfl, _⟩
  · omega
  · rw [putI_len]; omega
theorem puts_no {t x : Int} {l out : List Int} (h : PutS t l out false) (hx : ¬ t < x) : PutS t (l ++ [x]) (out ++ [x]) false := by
  rcases h with ⟨_, rfl, h⟩ | ⟨e, _⟩
  · refine .inl ⟨rfl, rfl, fun z hz => ?_⟩
    rcases List.mem_append.1 hz with hz | hz
    · exact h z hz
    · rw [List.mem_singleton.1 hz]; exact hx
  · cases e
theorem puts_hit {t x : Int} {l out : List Int} (h : PutS t l out false) (hx : t < x) : PutS t (l ++ [x]) (out ++ [t] ++ [x]) true := by
  rcases h with ⟨_, rfl, h⟩ | ⟨e, _⟩
  · exact .inr ⟨rfl, (putI_hit h hx).symm, x, by simp, hx⟩
  · cases e
theorem puts_on {t x : Int} {l out : List Int} (h : PutS t l out true) : PutS t (l ++ [x]) (out ++ [x]) true := by
  rcases h with ⟨e, _⟩ | ⟨_, rfl, z, hz, h⟩
  · cases e
  · exact .inr ⟨rfl, (putI_on ⟨z, hz, h⟩).symm, z, List.mem_append_left _ hz, h⟩
theorem puts_end {t : Int} {l out : List Int} (h : PutS t l out false) : out ++ [t] = putI t l := by
  rcases h with ⟨_, rfl, h⟩ | ⟨e, _⟩
  · exact (putI_end h).symm
  · cases e
theorem puts_done {t : Int} {l out : List Int} (h : PutS t l out true) : out = putI t l := by
  rcases h with ⟨e, _⟩ | ⟨_, e, _⟩
  · cases e
  · exact e

set_option maxHeartbeats 4000000 in
theorem c43 (zs : List Int) (ao : Option Addr) (n cap : Nat) (t : Int) (w : World) (hn : zs.length = n) (hm : n ≤ 1048576) (ht : -9223372036854775808 ≤ t ∧ t ≤ 9223372036854775807) (hr : Row w ao zs) :
    Calls Tryz.prog 43 #[.slice ao n cap, .int .i64 t] w (Told w (putI t zs)) := by
  obtain ⟨i0, hi, hz0, hz1, hz2⟩ := info_parts Tryz.info3
  have HR := hide hr
  have HN := hide hn
  clear hr hn
  have HB := hide (below_a (w := w) (.cells #[] 3))
  have HO := hide (own_empty w w.heap.size (Nat.le_refl _))
  go_enter Tryz.func43, Tryz.ntmps43
  go_wp2_with fail
  go_loopw [5, 6, 7] (fun v d i wr => ∃ (k : Nat) (b : Bool) (out : List Int), k ≤ n ∧ i = .int .i64 k ∧ d = .bool b ∧ PutS t (zs.take k) out b ∧ Own wr w.heap.size v out ∧ Below w.heap.size w wr) (fun _ _ i _ => n - (RowKit.intOf i).toNat)
  case atStart => exact ⟨0, false, [], Nat.zero_le _, rfl, rfl, .inl ⟨rfl, rfl, fun z hz => by simp at hz⟩, unhide HO, unhide HB⟩
  case round =>
    obtain ⟨k, b, out, hk, rfl, rfl, hp, ho, hb⟩ := hrel
    clear HB HO
    have HP := hide hp
    have HO := hide ho
    have HB := hide hb
    have hol : out.length ≤ 1048577 := by have := puts_len hp; rw [List.length_take] at this; omega
    clear hp ho hb
    have HRW := hide (unhide HR)
    replace HR := hide ((unhide HR).bel (unhide HB))
    obtain ⟨WA, hWA⟩ : ∃ A : World, A = wr := ⟨_, rfl⟩
    subst hWA
    have hsz := (unhide HB).size
    by_cases hlt : k < n
    case neg =>
      obtain rfl : k = n := by omega
      have hfin : zs.take k = zs := List.take_of_length_le (by rw [unhide HN]; exact Nat.le_refl _)
      rw [hfin] at HP
      cases b
      case true =>
        go_wp2_with fail
        go_ret
        exact ⟨_, rfl, by rw [← puts_done (unhide HP)]; exact unhide HO, unhide HB⟩
      go_wp2_with (first | (at_builtin; refine wpList_append_own _ rfl _ _ 25 rfl w.heap.size 3 i0 (.int .i64 0) 1 8 Tryz.underlying25 hi hz0 hz1 hz2 rfl (by decide) _ _ _ rfl ((unhide HO).2.alloc _) ⟨WA.heap.size, 0, none⟩ 1 1 [.int .i64 t] rfl rfl (cell_one_new _ _ _) (by simp [Value.oneCell']) (by unfold maxLen; omega) (by omega) (by simp; omega) ?_; intro v7 w7 hown hgrow _; have hf := own_fin2 (unhide HB) (unhide HO) ht hown hgrow; have HO7 := hide hf.1; have HB7 := hide hf.2; have hsz7 := hf.2.size; clear hown hgrow hf) | fail)
      go_ret
      exact ⟨_, rfl, by rw [← puts_end (unhide HP)]; exact unhide HO7, unhide HB7⟩
    obtain ⟨x, hx⟩ := i_at (zs := zs) (k := k) (by rw [unhide HN]; exact hlt)
    obtain ⟨b2, off, rfl, hc, hxb⟩ := (unhide HR).get hx
    have htk := put_round hx
    have HTK := hide htk
    have HXX := hide hx
    clear hx htk
    cases b
    case true =>
      go_wp2_with (first | (at_builtin; refine wpList_append_own _ rfl _ _ 25 rfl w.heap.size 3 i0 (.int .i64 0) 1 8 Tryz.underlying25 hi hz0 hz1 hz2 rfl (by decide) _ _ _ rfl ((unhide HO).2.alloc _) ⟨WA.heap.size, 0, none⟩ 1 1 [.int .i64 x] rfl rfl (cell_one_new _ _ _) (by simp [Value.oneCell']) (by unfold maxLen; omega) (by omega) (by simp; omega) ?_; intro v7 w7 hown hgrow _; have hf := own_fin2 (unhide HB) (unhide HO) hxb hown hgrow; have HO7 := hide hf.1; have HB7 := hide hf.2; have hsz7 := hf.2.size; clear hown hgrow hf) | fail)
      go_roundw
      case rel => exact ⟨k + 1, _, _, by omega, by go_num, rfl, by rw [unhide HTK]; exact puts_on (unhide HP), unhide HO7, unhide HB7⟩
      case measure => simp [RowKit.intOf]; omega
    by_cases hx : t < x
    case neg =>
      go_wp2_with (first | (at_builtin; refine wpList_append_own _ rfl _ _ 25 rfl w.heap.size 3 i0 (.int .i64 0) 1 8 Tryz.underlying25 hi hz0 hz1 hz2 rfl (by decide) _ _ _ rfl ((unhide HO).2.alloc _) ⟨WA.heap.size, 0, none⟩ 1 1 [.int .i64 x] rfl rfl (cell_one_new _ _ _) (by simp [Value.oneCell']) (by unfold maxLen; omega) (by omega) (by simp; omega) ?_; intro v7 w7 hown hgrow _; have hf := own_fin2 (unhide HB) (unhide HO) hxb hown hgrow; have HO7 := hide hf.1; have HB7 := hide hf.2; have hsz7 := hf.2.size; clear hown hgrow hf) | fail)
      go_roundw
      case rel => exact ⟨k + 1, _, _, by omega, by go_num, rfl, by rw [unhide HTK]; exact puts_no (unhide HP) hx, unhide HO7, unhide HB7⟩
      case measure => simp [RowKit.intOf]; omega
    have hl1 : (out ++ [t]).length ≤ 1048578 := by rw [List.length_append, List.length_singleton]; omega
    go_wp2_with (first | (at_builtin; refine wpList_append_own _ rfl _ _ 25 rfl w.heap.size 3 i0 (.int .i64 0) 1 8 Tryz.underlying25 hi hz0 hz1 hz2 rfl (by decide) _ _ _ rfl ((unhide HO7).2.alloc _) ⟨w7.heap.size, 0, none⟩ 1 1 [.int .i64 x] rfl rfl (cell_one_new _ _ _) (by simp [Value.oneCell']) (by unfold maxLen; omega) (by omega) (by simp; omega) ?_; intro v8 w8 hown hgrow _; have hf := own_fin2 (unhide HB7) (unhide HO7) hxb hown hgrow; have HO8 := hide hf.1; have HB8 := hide hf.2; have hsz8 := hf.2.size; clear hown hgrow hf) | (at_builtin; refine wpList_append_own _ rfl _ _ 25 rfl w.heap.size 3 i0 (.int .i64 0) 1 8 Tryz.underlying25 hi hz0 hz1 hz2 rfl (by decide) _ _ _ rfl ((unhide HO).2.alloc _) ⟨WA.heap.size, 0, none⟩ 1 1 [.int .i64 t] rfl rfl (cell_one_new _ _ _) (by simp [Value.oneCell']) (by unfold maxLen; omega) (by omega) (by simp; omega) ?_; intro v7 w7 hown hgrow _; have hf := own_fin2 (unhide HB) (unhide HO) ht hown hgrow; have HO7 := hide hf.1; have HB7 := hide hf.2; have hsz7 := hf.2.size; clear hown hgrow hf; have HR7 := hide ((unhide HRW).bel (unhide HB7)); obtain ⟨b9, off9, e9, hc9, -⟩ := (unhide HR7).get (unhide HXX); cases e9) | fail)
    go_roundw
    case rel => exact ⟨k + 1, _, _, by omega, by go_num, rfl, by rw [unhide HTK]; exact puts_hit (unhide HP) hx, unhide HO8, unhide HB8⟩
    case measure => simp [RowKit.intOf]; omega
end Go.Proofs.YtmlbphmbffkdnaaGreat
