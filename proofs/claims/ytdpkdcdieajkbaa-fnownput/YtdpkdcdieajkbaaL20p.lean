/-
  The draws of rows and an entry, told with where the rows lie.
-/
import Derived.Test.YtdpkdcdieajkbaaL20n
namespace Go.Proofs.Ytdpkdcdieajkbaa
open Go.RowKit
set_option linter.unusedVariables false
set_option maxRecDepth 100000

/-- rows and an entry, drawn of a code; the rows lie behind a base -/
def RowsEA (w : World) (e : Ending) (w' : World) : Prop :=
  ∃ (ar : Option Addr) (n cap : Nat) (rs : List Tm.Rw) (a t u p : Int), e = .returned (.tuple #[.slice ar n cap, entV a t u p]) ∧ rs.length = n ∧ n ≤ 8 ∧ n ≤ cap ∧ (ar = none → cap = 0) ∧ RRowA w' w.heap.size ar rs ∧ Below w.heap.size w w'

set_option maxHeartbeats 8000000 in
theorem d110 (bs : List Int) (ao : Option Addr) (n cap : Nat) (w : World) (hn : bs.length = n) (hc : n ≤ cap) (hm : cap ≤ maxLen) (hB : Bytes w ao bs) :
    Calls Try.prog 110 #[.slice ao n cap] w (RowsEA w) := by
  have HB := hide (Below.refl w.heap.size w)
  have HBY := hide hB
  clear hB
  replace HB := hide (below_al (o := .cells #[.int .i64 0, .int .i64 0, .int .i64 0, .int .i64 0] 25) (unhide HB))
  replace HBY := hide ((unhide HBY).bel (below_a (.cells #[.int .i64 0, .int .i64 0, .int .i64 0, .int .i64 0] 25)))
  have HZ := hide (box_new w [.int .i64 0, .int .i64 0, .int .i64 0, .int .i64 0] 25 (by simp [Value.oneCell']))
  (try simp only [World.size_alloc] at HZ)
  have z0 := (unhide HZ).cell 0 rfl
  have z0f := (unhide HZ).frozen 0 rfl
  have z1 := (unhide HZ).cell 1 rfl
  have z1f := (unhide HZ).frozen 1 rfl
  have z2 := (unhide HZ).cell 2 rfl
  have z2f := (unhide HZ).frozen 2 rfl
  have z3 := (unhide HZ).cell 3 rfl
  have z3f := (unhide HZ).frozen 3 rfl
  go_enter Try.func110, Try.ntmps110
  go_wp2_with fail
  refine (c119 bs ao n cap _ hn hc hm (unhide HBY)).mono ?_
  rintro e w1 ⟨rfl, hr, hb, hl1⟩
  (try clear z0 z0f z1 z1f z2 z2f z3 z3f)
  clear HBY
  replace HB := hide (below_tr (unhide HB) hb)
  replace HZ := hide ((unhide HZ).bel hb)
  (try simp only [World.size_alloc] at hr hl1)
  (try simp only [World.size_alloc])
  generalize hrr : w.heap.size + 1 = r at *
  have HRd := hide hr
  have HRR := hide hrr
  have hwr : w.heap.size ≤ r := by omega
  have hne0 : r ≠ w.heap.size := by omega
  clear hr hb hrr
  have z0 := (unhide HZ).cell 0 rfl
  have z0f := (unhide HZ).frozen 0 rfl
  have z1 := (unhide HZ).cell 1 rfl
  have z1f := (unhide HZ).frozen 1 rfl
  have z2 := (unhide HZ).cell 2 rfl
  have z2f := (unhide HZ).frozen 2 rfl
  have z3 := (unhide HZ).cell 3 rfl
  have z3f := (unhide HZ).frozen 3 rfl
  go_wp2_with fail
  refine (c183 r (0) 12 _ (by omega) (by omega) (unhide HRd)).mono ?_
  rintro e w2 ⟨ars, nrs, crs, rs, rfl, hnrs, h8rs, hcrs, hzrs, hrw, hr, hg⟩
  have hbasers : r < w1.heap.size := (unhide HRd).lt
  (try clear z0 z0f z1 z1f z2 z2f z3 z3f)
  replace HB := hide (below_gr (unhide HB) hg (by omega))
  replace HZ := hide ((unhide HZ).kg hg (by omega))
  replace HRd := hide hr
  clear hr hg
  have HW := hide hrw
  clear hrw
  have z0 := (unhide HZ).cell 0 rfl
  have z0f := (unhide HZ).frozen 0 rfl
  have z1 := (unhide HZ).cell 1 rfl
  have z1f := (unhide HZ).frozen 1 rfl
  have z2 := (unhide HZ).cell 2 rfl
  have z2f := (unhide HZ).frozen 2 rfl
  have z3 := (unhide HZ).cell 3 rfl
  have z3f := (unhide HZ).frozen 3 rfl
  go_wp2_with fail
  refine (c184 r (0 + 270) rs ars nrs crs _ _ (by omega) (unhide HRd) hnrs h8rs hbasers (unhide HW)).mono ?_
  rintro e w3 ⟨a, t, u, p, rfl, hr, hg⟩
  (try clear z0 z0f z1 z1f z2 z2f z3 z3f)
  replace HB := hide (below_gr (unhide HB) hg (by omega))
  replace HZ := hide ((unhide HZ).kg hg (by omega))
  replace HW := hide ((unhide HW).kg hg (by omega))
  replace HRd := hide hr
  clear hr hg
  have z0 := (unhide HZ).cell 0 rfl
  have z0f := (unhide HZ).frozen 0 rfl
  have z1 := (unhide HZ).cell 1 rfl
  have z1f := (unhide HZ).frozen 1 rfl
  have z2 := (unhide HZ).cell 2 rfl
  have z2f := (unhide HZ).frozen 2 rfl
  have z3 := (unhide HZ).cell 3 rfl
  have z3f := (unhide HZ).frozen 3 rfl
  go_wp2_with fail
  exact bodyPost_ret (v := .tuple #[.slice ars nrs crs, entV a t u p]) (by simp [results, Try.results110, go_sem, z0, z1, z2, z3]) rfl ⟨_, _, _, rs, _, _, _, _, rfl, hnrs, h8rs, hcrs, hzrs, RRowA.mono (((((unhide HW).oth _ (by omega)).oth _ (by omega)).oth _ (by omega)).oth _ (by omega)) (by omega), (below_sc (below_sc (below_sc (below_sc (unhide HB) (by dsimp only; omega)) (by dsimp only; omega)) (by dsimp only; omega)) (by dsimp only; omega))⟩

set_option maxHeartbeats 8000000 in
theorem c25 (bs : List Int) (ao : Option Addr) (n cap : Nat) (w : World) (hn : bs.length = n) (hc : n ≤ cap) (hm : cap ≤ maxLen) (hB : Bytes w ao bs) :
    Calls Try.prog 25 #[.slice ao n cap] w (RowsEA w) := by
  have HZ := hide (box_new w [.int .i64 0, .int .i64 0, .int .i64 0, .int .i64 0] 25 (by simp [Value.oneCell']))
  have HB := hide (below_a (w := w) (.cells #[.int .i64 0, .int .i64 0, .int .i64 0, .int .i64 0] 25))
  have HBY := hide (hB.bel (below_a (.cells #[.int .i64 0, .int .i64 0, .int .i64 0, .int .i64 0] 25)))
  clear hB
  have z0 := (unhide HZ).cell 0 rfl
  have z0f := (unhide HZ).frozen 0 rfl
  have z1 := (unhide HZ).cell 1 rfl
  have z1f := (unhide HZ).frozen 1 rfl
  have z2 := (unhide HZ).cell 2 rfl
  have z2f := (unhide HZ).frozen 2 rfl
  have z3 := (unhide HZ).cell 3 rfl
  have z3f := (unhide HZ).frozen 3 rfl
  go_enter Try.func25, Try.ntmps25
  go_wp2_with fail
  refine (d110 bs ao n cap _ hn hc hm (unhide HBY)).mono ?_
  rintro e w1 ⟨ars, nrs, crs, rs, a, t, u, p, rfl, hnrs, h8rs, hcrs, hzrs, hw, hb⟩
  (try clear z0 z0f z1 z1f z2 z2f z3 z3f)
  replace HB := hide (below_tr (unhide HB) hb)
  replace HZ := hide ((unhide HZ).bel hb)
  have HW := hide (hw)
  clear hb hw
  have z0 := (unhide HZ).cell 0 rfl
  have z0f := (unhide HZ).frozen 0 rfl
  have z1 := (unhide HZ).cell 1 rfl
  have z1f := (unhide HZ).frozen 1 rfl
  have z2 := (unhide HZ).cell 2 rfl
  have z2f := (unhide HZ).frozen 2 rfl
  have z3 := (unhide HZ).cell 3 rfl
  have z3f := (unhide HZ).frozen 3 rfl
  go_wp2_with fail
  have hsz : w.heap.size + 1 ≤ (w.alloc (.cells #[.int .i64 0, .int .i64 0, .int .i64 0, .int .i64 0] 25)).heap.size := by simp
  exact bodyPost_ret (v := .tuple #[.slice ars nrs crs, entV a t u p]) (by simp [results, Try.results25, go_sem, z0, z1, z2, z3]) rfl ⟨_, _, _, rs, _, _, _, _, rfl, hnrs, h8rs, hcrs, hzrs, RRowA.mono (((((unhide HW).oth _ (by omega)).oth _ (by omega)).oth _ (by omega)).oth _ (by omega)) (by omega), (below_sc (below_sc (below_sc (below_sc (unhide HB) (by dsimp only; omega)) (by dsimp only; omega)) (by dsimp only; omega)) (by dsimp only; omega))⟩
end Go.Proofs.Ytdpkdcdieajkbaa
