/-
  The walks of the model's draws of one number.
-/
import Derived.Test.YtjdnengmllamcaaDraw
namespace Go.Proofs.Ytjdnengmllamcaa
open Go.RowKit

def Odd (w : World) (r k : Nat) (e : Ending) (w' : World) : Prop :=
  ∃ b : Bool, e = .returned (.bool b) ∧ Rd w' r (k + 1) ∧ w.grownBy w' (some r)
def Drawn (w : World) (r k : Nat) (e : Ending) (w' : World) : Prop :=
  ∃ x : Int, e = .returned (.int .i64 x) ∧ (-9223372036854775808 ≤ x ∧ x ≤ 9223372036854775807) ∧ Rd w' r k ∧ w.grownBy w' (some r)

set_option maxHeartbeats 1000000 in
theorem c132 (r k : Nat) (n : Int) (w : World) (hk : k ≤ 1000000000) (hn : 1 ≤ n ∧ n ≤ 1000000) (h : Rd w r k) :
    Calls Try.prog 132 #[.pointer (some ⟨r, 0, none⟩), .int .i64 n] w (Odd w r k) := by
  obtain ⟨n1, n2⟩ := hn
  have H := hide h
  clear h
  go_enter Try.func132, Try.ntmps132
  go_wp2_with fail
  refine (c111 r k n _ hk (unhide H)).mono ?_
  rintro e w1 ⟨x, rfl, hx, hx2, hr, hg⟩
  have HR := hide hr
  have HG := hide hg
  clear hr hg hx2
  go_wp2_with fail
  go_ret
  exact ⟨_, rfl, unhide HR, unhide HG⟩

theorem grown_alloc_any {w w' : World} {row : Option Nat} {o : Obj} (h : (w.alloc o).grownBy w' row) : w.grownBy w' row :=
  grown_trans (World.grownBy_alloc w o row) h
theorem Rd.alloc {w : World} {r k : Nat} (h : Rd w r k) (o : Obj) : Rd (w.alloc o) r k :=
  h.kept (World.grownBy_alloc w o none) (fun b hb => by cases hb)

/-- a pick behind a literal list: the list is still there -/
theorem pick_lit (r k : Nat) (n : Int) (w : World) (cs : Array Value) (hk : k ≤ 1000000000) (hn : 1 ≤ n) (h : Rd w r k) :
    Calls Try.prog 111 #[.pointer (some ⟨r, 0, none⟩), .int .i64 n] (w.alloc (.cells cs 3)) fun e w' => ∃ x : Int, e = .returned (.int .i64 x) ∧ 0 ≤ x ∧ x < n ∧ Rd w' r (k + 1) ∧ w.grownBy w' (some r) ∧
      ∀ j v, cs[j]? = some v → w'.cell? ⟨w.heap.size, j, none⟩ = some v := by
  refine (c111 r k n _ hk (h.alloc _)).mono ?_
  rintro e w1 ⟨x, rfl, hx, hx2, hr, hg⟩
  refine ⟨x, rfl, hx, hx2 hn, hr, grown_alloc_any hg, fun j v hv => ?_⟩
  refine hg.cell (a := ⟨w.heap.size, j, none⟩) (by rw [World.cell?_alloc_new]; exact hv) ?_
  have := h.lt
  simp only [ne_eq, Option.some.injEq]
  omega

set_option maxHeartbeats 2000000 in
theorem c133 (r k : Nat) (n : Int) (w : World) (hk : k ≤ 900000000) (hn : 1 ≤ n ∧ n ≤ 1000000) (h : Rd w r k) :
    Calls Try.prog 133 #[.pointer (some ⟨r, 0, none⟩), .int .i64 n] w (Drawn w r (k + 4)) := by
  have H := hide h
  have HN := hide hn
  clear h hn
  go_enter Try.func133, Try.ntmps133
  go_wp2_with fail
  refine (c132 r k n _ (by omega) (unhide HN) (unhide H)).mono ?_
  rintro e w1 ⟨b, rfl, hr, hg⟩
  have HR := hide hr
  have HG := hide hg
  clear hr hg
  cases b
  · go_wp2_with fail
    refine (c111 r (k + 1) 256 _ (by omega) (unhide HR)).mono ?_
    rintro e w2 ⟨x, rfl, hx, hx2, hr, hg⟩
    have hx3 : x < 256 := hx2 (by omega)
    have HR2 := hide hr
    have HG2 := hide (grown_trans (unhide HG) hg)
    clear hr hg hx2
    go_wp2_with fail
    refine (c111 r (k + 2) 250 _ (by omega) (unhide HR2)).mono ?_
    rintro e w3 ⟨y, rfl, hy, hy2, hr, hg⟩
    have hy3 : y < 250 := hy2 (by omega)
    have HR3 := hide hr
    have HG3 := hide (grown_trans (unhide HG2) hg)
    clear hr hg hy2
    go_wp2_with fail
    refine (pick_lit r (k + 3) 4 _ _ (by omega) (by omega) (unhide HR3)).mono ?_
    rintro e w4 ⟨z, rfl, hz, hz2, hr, hg, hl⟩
    have HR4 := hide hr
    have HG4 := hide (grown_trans (unhide HG3) hg)
    have h0 := hl 0 _ rfl
    have h1 := hl 1 _ rfl
    have h2 := hl 2 _ rfl
    have h3 := hl 3 _ rfl
    clear hr hg hl
    obtain rfl | rfl | rfl | rfl : z = 0 ∨ z = 1 ∨ z = 2 ∨ z = 3 := by omega
    all_goals
      go_wp2_with fail
      go_ret
      exact ⟨_, rfl, by omega, unhide HR4, unhide HG4⟩
  · go_wp2_with fail
    refine (pick_lit r (k + 1) 3 _ _ (by omega) (by omega) (unhide HR)).mono ?_
    rintro e w2 ⟨x, rfl, hx, hx2, hr, hg, hl⟩
    have HR2 := hide (hr.mono (show k + 2 ≤ k + 4 by omega))
    have HG2 := hide (grown_trans (unhide HG) hg)
    have h0 := hl 0 _ rfl
    have h1 := hl 1 _ rfl
    have h2 := hl 2 _ rfl
    clear hr hg hl
    obtain rfl | rfl | rfl : x = 0 ∨ x = 1 ∨ x = 2 := by omega
    all_goals
      go_wp2_with fail
      go_ret
      exact ⟨_, rfl, by omega, unhide HR2, unhide HG2⟩

/-- What a reader is opened with: a block of its own. -/
def Opened (w : World) (e : Ending) (w' : World) : Prop :=
  e = .returned (.pointer (some ⟨w.heap.size, 0, none⟩)) ∧ Rd w' w.heap.size 0 ∧ Below w.heap.size w w' ∧ w.heap.size < w'.heap.size

theorem Bytes.take {w : World} {ao : Option Addr} {zs : List Int} (h : Bytes w ao zs) (k : Nat) : Bytes w ao (zs.take k) := by
  refine ⟨fun z hz => h.1 z (List.mem_of_mem_take hz), fun hne => ?_⟩
  have hz : zs ≠ [] := by intro e; subst e; simp at hne
  obtain ⟨b, off, rfl, hc⟩ := h.2 hz
  refine ⟨b, off, rfl, fun j hj => ?_⟩
  simp only [List.length_take] at hj
  rw [hc j (by omega)]
  simp [List.getD, show j < k by omega]

theorem opened_of {w : World} {ao : Option Addr} {n cap : Nat} {zs : List Int} (h1 : zs.length = n) (h2 : n ≤ 2000) (hB : Bytes w ao zs) (t : TypeId) :
    Rd (w.alloc (.cells #[.slice ao n cap, .int .i64 0] t)) w.heap.size 0 ∧ Below w.heap.size w (w.alloc (.cells #[.slice ao n cap, .int .i64 0] t)) ∧ w.heap.size < (w.alloc (.cells #[.slice ao n cap, .int .i64 0] t)).heap.size := by
  have hbel : Below w.heap.size w (w.alloc (.cells #[.slice ao n cap, .int .i64 0] t)) := (Below.refl _ _).alloc (Nat.le_refl _) _
  refine ⟨⟨ao, n, cap, 0, zs, h1, h2, Nat.le_refl _, ⟨hB.1, fun hne => ?_⟩, ?_, ?_, ?_, ?_⟩, hbel, by simp⟩
  · obtain ⟨b, off, rfl, hc⟩ := hB.2 hne
    refine ⟨b, off, rfl, fun j hj => ?_⟩
    have h3 := hc j hj
    rw [hbel.cell (p := ⟨b, off + j, none⟩) (World.block_lt_of_cell? w _ h3)]
    exact h3
  · intro hz a ha
    obtain ⟨b, off, rfl, hc⟩ := hB.2 hz
    cases ha
    exact World.block_lt_of_cell? w _ (hc 0 (by cases zs; exact absurd rfl hz; simp))
  · rw [World.cell?_alloc_new]; rfl
  · rw [World.cell?_alloc_new]; rfl
  · simp

set_option maxHeartbeats 1000000 in
theorem c105 (zs : List Int) (ao : Option Addr) (n cap : Nat) (w : World) (hn : zs.length = n) (hc : n ≤ cap) (hm : cap ≤ maxLen) (hB : Bytes w ao zs) :
    Calls Try.prog 105 #[.slice ao n cap] w (Opened w) := by
  unfold maxLen at hm
  by_cases h1 : (2000 : Int) < (n : Int)
  · have HO := hide (opened_of (zs := zs.take 2000) (cap := cap) (w := w) (ao := ao) (n := 2000) (by rw [List.length_take]; omega) (Nat.le_refl _) (hB.take 2000) 132)
    clear hB
    go_enter Try.func105, Try.ntmps105
    go_wp2_with fail
    go_ret
    exact ⟨rfl, unhide HO⟩
  · have HO := hide (opened_of (cap := cap) hn (by omega) hB 132)
    clear hB
    go_enter Try.func105, Try.ntmps105
    go_wp2_with fail
    go_ret
    exact ⟨rfl, unhide HO⟩
end Go.Proofs.Ytjdnengmllamcaa
