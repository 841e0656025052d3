/-
  Texts of the proof, what it needs of them: L9p.
-/
import Derived.Test.YtmlbphmbffkdnaaGw17
import Derived.Test.YtmlbphmbffkdnaaGw43
namespace Go.Proofs.Ytmlbphmbffkdnaa
open Go.RowKit
set_option linter.unusedVariables false
set_option maxRecDepth 100000

theorem put_round {zs : List Int} {k : Nat} {x : Int} (h : zs[k]? = some x) : zs.take (k + 1) = zs.take k ++ [x] := by
  obtain ⟨h1, rfl⟩ := List.getElem?_eq_some_iff.1 h
  rw [List.take_succ_eq_append_getElem h1]
def PutS (t : Int) (l out : List Int) (b : Bool) : Prop := (b = false ∧ out = l ∧ ∀ z ∈ l, ¬ t < z) ∨ (b = true ∧ out = putI t l ∧ ∃ z ∈ l, t < z)
theorem puts_len {t : Int} {l out : List Int} {b : Bool} (h : PutS t l out b) : out.length ≤ l.length + 1 := by
  rcases h with ⟨_, rfl, _⟩ | ⟨_, rfl, _⟩
  · omega
  · rw [putI_len]; omega
theorem puts_no {t x : Int} {l out : List Int} (h : PutS t l out false) (hx : ¬ t < x) : PutS t (l ++ [x]) (out ++ [x]) false := by
  rcases h with ⟨_, rfl, h⟩ | ⟨e, _⟩
  · refine .inl ⟨rfl, rfl, fun z hz => ?_⟩
    rcases List.mem_append.1 hz with hz | hz
    · exact h z hz
    · rw [List.mem_singleton.1 hz]; exact hx
  · cases e
theorem puts_hit {t x : Int} {l out : List Int} (h : PutS t l out false) (hx : t < x) : PutS t (l ++ [x]) (out ++ [t] ++ [x]) true := by
  rcases h with ⟨_, rfl, h⟩ | ⟨e, _⟩
  · exact .inr ⟨rfl, (putI_hit h hx).symm, x, by simp, hx⟩
  · cases e
theorem puts_on {t x : Int} {l out : List Int} (h : PutS t l out true) : PutS t (l ++ [x]) (out ++ [x]) true := by
  rcases h with ⟨e, _⟩ | ⟨_, rfl, z, hz, h⟩
  · cases e
  · exact .inr ⟨rfl, (putI_on ⟨z, hz, h⟩).symm, z, List.mem_append_left _ hz, h⟩
theorem puts_end {t : Int} {l out : List Int} (h : PutS t l out false) : out ++ [t] = putI t l := by
  rcases h with ⟨_, rfl, h⟩ | ⟨e, _⟩
  · exact (putI_end h).symm
  · cases e
theorem puts_done {t : Int} {l out : List Int} (h : PutS t l out true) : out = putI t l := by
  rcases h with ⟨e, _⟩ | ⟨_, e, _⟩
  · cases e
  · exact e

set_option maxHeartbeats 4000000 in
theorem c149 (zs : List Int) (ao : Option Addr) (n cap : Nat) (t : Int) (w : World) (hn : zs.length = n) (hm : n ≤ 1048576) (ht : -9223372036854775808 ≤ t ∧ t ≤ 9223372036854775807) (hr : Row w ao zs) :
    Calls Try.prog 149 #[.slice ao n cap, .int .i64 t] w (Told w (putI t zs)) := by
  obtain ⟨i0, hi, hz0, hz1, hz2⟩ := info_parts Try.info3
  have HR := hide hr
  have HN := hide hn
  clear hr hn
  have HB := hide (below_a (w := w) (.cells #[] 3))
  have HO := hide (own_empty w w.heap.size (Nat.le_refl _))
  go_enter Try.func149, Try.ntmps149
  go_wp2_with fail
  go_loopw [5, 6, 7] (fun v d i wr => ∃ (k : Nat) (b : Bool) (out : List Int), k ≤ n ∧ i = .int .i64 k ∧ d = .bool b ∧ PutS t (zs.take k) out b ∧ Own wr w.heap.size v out ∧ Below w.heap.size w wr) (fun _ _ i _ => n - (RowKit.intOf i).toNat)
  case atStart => exact ⟨0, false, [], Nat.zero_le _, rfl, rfl, .inl ⟨rfl, rfl, fun z hz => by simp at hz⟩, unhide HO, unhide HB⟩
  case round =>
    obtain ⟨k, b, out, hk, rfl, rfl, hp, ho, hb⟩ := hrel
    clear HB HO
    have HP := hide hp
    have HO := hide ho
    have HB := hide hb
    have hol : out.length ≤ 1048577 := by have := puts_len hp; rw [List.length_take] at this; omega
    clear hp ho hb
    have HRW := hide (unhide HR)
    replace HR := hide ((unhide HR).bel (unhide HB))
    obtain ⟨WA, hWA⟩ : ∃ A : World, A = wr := ⟨_, rfl⟩
    subst hWA
    have hsz := (unhide HB).size
    by_cases hlt : k < n
    case neg =>
      obtain rfl : k = n := by omega
      have hfin : zs.take k = zs := List.take_of_length_le (by rw [unhide HN]; exact Nat.le_refl _)
      rw [hfin] at HP
      cases b
      case true =>
        go_wp2_with fail
        go_ret
        exact ⟨_, rfl, by rw [← puts_done (unhide HP)]; exact unhide HO, unhide HB⟩
      go_wp2_with (first | (at_builtin; refine wpList_append_own _ rfl _ _ 23 rfl w.heap.size 3 i0 (.int .i64 0) 1 8 Try.underlying23 hi hz0 hz1 hz2 rfl (by decide) _ _ _ rfl ((unhide HO).2.alloc _) ⟨WA.heap.size, 0, none⟩ 1 1 [.int .i64 t] rfl rfl (cell_one_new _ _ _) (by simp [Value.oneCell']) (by unfold maxLen; omega) (by omega) (by simp; omega) ?_; intro v7 w7 hown hgrow _; have hf := own_fin2 (unhide HB) (unhide HO) ht hown hgrow; have HO7 := hide hf.1; have HB7 := hide hf.2; have hsz7 := hf.2.size; clear hown hgrow hf) | fail)
      go_ret
      exact ⟨_, rfl, by rw [← puts_end (unhide HP)]; exact unhide HO7, unhide HB7⟩
    obtain ⟨x, hx⟩ := i_at (zs := zs) (k := k) (by rw [unhide HN]; exact hlt)
    obtain ⟨b2, off, rfl, hc, hxb⟩ := (unhide HR).get hx
    have htk := put_round hx
    have HTK := hide htk
    have HXX := hide hx
    clear hx htk
    cases b
    case true =>
      go_wp2_with (first | (at_builtin; refine wpList_append_own _ rfl _ _ 23 rfl w.heap.size 3 i0 (.int .i64 0) 1 8 Try.underlying23 hi hz0 hz1 hz2 rfl (by decide) _ _ _ rfl ((unhide HO).2.alloc _) ⟨WA.heap.size, 0, none⟩ 1 1 [.int .i64 x] rfl rfl (cell_one_new _ _ _) (by simp [Value.oneCell']) (by unfold maxLen; omega) (by omega) (by simp; omega) ?_; intro v7 w7 hown hgrow _; have hf := own_fin2 (unhide HB) (unhide HO) hxb hown hgrow; have HO7 := hide hf.1; have HB7 := hide hf.2; have hsz7 := hf.2.size; clear hown hgrow hf) | fail)
      go_roundw
      case rel => exact ⟨k + 1, _, _, by omega, by go_num, rfl, by rw [unhide HTK]; exact puts_on (unhide HP), unhide HO7, unhide HB7⟩
      case measure => simp [RowKit.intOf]; omega
    by_cases hx : t < x
    case neg =>
      go_wp2_with (first | (at_builtin; refine wpList_append_own _ rfl _ _ 23 rfl w.heap.size 3 i0 (.int .i64 0) 1 8 Try.underlying23 hi hz0 hz1 hz2 rfl (by decide) _ _ _ rfl ((unhide HO).2.alloc _) ⟨WA.heap.size, 0, none⟩ 1 1 [.int .i64 x] rfl rfl (cell_one_new _ _ _) (by simp [Value.oneCell']) (by unfold maxLen; omega) (by omega) (by simp; omega) ?_; intro v7 w7 hown hgrow _; have hf := own_fin2 (unhide HB) (unhide HO) hxb hown hgrow; have HO7 := hide hf.1; have HB7 := hide hf.2; have hsz7 := hf.2.size; clear hown hgrow hf) | fail)
      go_roundw
      case rel => exact ⟨k + 1, _, _, by omega, by go_num, rfl, by rw [unhide HTK]; exact puts_no (unhide HP) hx, unhide HO7, unhide HB7⟩
      case measure => simp [RowKit.intOf]; omega
    have hl1 : (out ++ [t]).length ≤ 1048578 := by rw [List.length_append, List.length_singleton]; omega
    go_wp2_with (first | (at_builtin; refine wpList_append_own _ rfl _ _ 23 rfl w.heap.size 3 i0 (.int .i64 0) 1 8 Try.underlying23 hi hz0 hz1 hz2 rfl (by decide) _ _ _ rfl ((unhide HO7).2.alloc _) ⟨w7.heap.size, 0, none⟩ 1 1 [.int .i64 x] rfl rfl (cell_one_new _ _ _) (by simp [Value.oneCell']) (by unfold maxLen; omega) (by omega) (by simp; omega) ?_; intro v8 w8 hown hgrow _; have hf := own_fin2 (unhide HB7) (unhide HO7) hxb hown hgrow; have HO8 := hide hf.1; have HB8 := hide hf.2; have hsz8 := hf.2.size; clear hown hgrow hf) | (at_builtin; refine wpList_append_own _ rfl _ _ 23 rfl w.heap.size 3 i0 (.int .i64 0) 1 8 Try.underlying23 hi hz0 hz1 hz2 rfl (by decide) _ _ _ rfl ((unhide HO).2.alloc _) ⟨WA.heap.size, 0, none⟩ 1 1 [.int .i64 t] rfl rfl (cell_one_new _ _ _) (by simp [Value.oneCell']) (by unfold maxLen; omega) (by omega) (by simp; omega) ?_; intro v7 w7 hown hgrow _; have hf := own_fin2 (unhide HB) (unhide HO) ht hown hgrow; have HO7 := hide hf.1; have HB7 := hide hf.2; have hsz7 := hf.2.size; clear hown hgrow hf; have HR7 := hide ((unhide HRW).bel (unhide HB7)); obtain ⟨b9, off9, e9, hc9, -⟩ := (unhide HR7).get (unhide HXX); cases e9) | fail)
    go_roundw
    case rel => exact ⟨k + 1, _, _, by omega, by go_num, rfl, by rw [unhide HTK]; exact puts_hit (unhide HP) hx, unhide HO8, unhide HB8⟩
    case measure => simp [RowKit.intOf]; omega
end Go.Proofs.Ytmlbphmbffkdnaa
