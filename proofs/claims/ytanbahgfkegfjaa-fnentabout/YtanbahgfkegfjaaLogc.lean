/-
  The draws of entries: of a code alone.
-/
import Derived.Test.YtanbahgfkegfjaaLogb
namespace Go.Proofs.Ytanbahgfkegfjaa
open Go.RowKit
set_option linter.unusedVariables false
set_option maxRecDepth 100000

theorem EOwn.mono {w : World} {b b' : Nat} {v : Value} {es : List Tm.Ent} (h : EOwn w b' v es) (hb : b ≤ b') : EOwn w b v es := ⟨h.1, owns_mono h.2 hb⟩
/-- what a draw of entries leaves, of a code alone -/
def LogsD (w : World) (e : Ending) (w' : World) : Prop :=
  ∃ (v : Value) (es : List Tm.Ent), e = .returned v ∧ es.length ≤ 41 ∧ EOwn w' w.heap.size v es ∧ Below w.heap.size w w'
/-- entries, and a number -/
def LogsN (w : World) (e : Ending) (w' : World) : Prop :=
  ∃ (v : Value) (es : List Tm.Ent) (t : Int), e = .returned (.tuple #[v, .int .i64 t]) ∧ es.length ≤ 41 ∧ (-1 ≤ t ∧ t ≤ 100) ∧ EOwn w' w.heap.size v es ∧ Below w.heap.size w w'

set_option maxHeartbeats 1000000 in
theorem c51 (bs : List Int) (ao : Option Addr) (n cap : Nat) (w : World) (hn : bs.length = n) (hc : n ≤ cap) (hm : cap ≤ maxLen) (hB : Bytes w ao bs) :
    Calls Try.prog 51 #[.slice ao n cap] w (LogsD w) := by
  have HB := hide hB
  clear hB
  go_enter Try.func51, Try.ntmps51
  go_wp2_with fail
  refine (c123 bs ao n cap _ hn hc hm (unhide HB)).mono ?_
  rintro e w1 ⟨rfl, hr1, hb1, hl1⟩
  clear HB hn hc hm
  go_wp2_with fail
  refine (c124 w.heap.size 0 3 _ (by omega) (by omega) hr1).mono ?_
  rintro e w2 ⟨v, es, rfl, hes, ho, hr, hg⟩
  have HB2 := hide (below_of_grown hb1 hg)
  have HO2 := hide (ho.mono hb1.size)
  clear ho hr hg hr1 hb1 hl1
  go_wp2_with fail
  go_ret
  exact ⟨v, es, rfl, hes, unhide HO2, unhide HB2⟩

set_option maxHeartbeats 1000000 in
theorem c28 (bs : List Int) (ao : Option Addr) (n cap : Nat) (w : World) (hn : bs.length = n) (hc : n ≤ cap) (hm : cap ≤ maxLen) (hB : Bytes w ao bs) :
    Calls Try.prog 28 #[.slice ao n cap] w (LogsD w) := by
  have HB := hide hB
  clear hB
  go_enter Try.func28, Try.ntmps28
  go_wp2_with fail
  refine (c123 bs ao n cap _ hn hc hm (unhide HB)).mono ?_
  rintro e w1 ⟨rfl, hr1, hb1, hl1⟩
  clear HB hn hc hm
  go_wp2_with fail
  refine (c124 w.heap.size 0 6 _ (by omega) (by omega) hr1).mono ?_
  rintro e w2 ⟨v, es, rfl, hes, ho, hr, hg⟩
  have HB2 := hide (below_of_grown hb1 hg)
  have HO2 := hide (ho.mono hb1.size)
  clear ho hr hg hr1 hb1 hl1
  go_wp2_with fail
  go_ret
  exact ⟨v, es, rfl, hes, unhide HO2, unhide HB2⟩

set_option maxHeartbeats 1000000 in
theorem c73 (bs : List Int) (ao : Option Addr) (n cap : Nat) (w : World) (hn : bs.length = n) (hc : n ≤ cap) (hm : cap ≤ maxLen) (hB : Bytes w ao bs) :
    Calls Try.prog 73 #[.slice ao n cap] w (LogsD w) := by
  have HB := hide hB
  clear hB
  go_enter Try.func73, Try.ntmps73
  go_wp2_with fail
  refine (c123 bs ao n cap _ hn hc hm (unhide HB)).mono ?_
  rintro e w1 ⟨rfl, hr1, hb1, hl1⟩
  clear HB hn hc hm
  go_wp2_with fail
  refine (c124 w.heap.size 0 5 _ (by omega) (by omega) hr1).mono ?_
  rintro e w2 ⟨v, es, rfl, hes, ho, hr, hg⟩
  have HB2 := hide (below_of_grown hb1 hg)
  have HO2 := hide (ho.mono hb1.size)
  clear ho hr hg hr1 hb1 hl1
  go_wp2_with fail
  go_ret
  exact ⟨v, es, rfl, hes, unhide HO2, unhide HB2⟩

set_option maxHeartbeats 1000000 in
theorem c36 (bs : List Int) (ao : Option Addr) (n cap : Nat) (w : World) (hn : bs.length = n) (hc : n ≤ cap) (hm : cap ≤ maxLen) (hB : Bytes w ao bs) :
    Calls Try.prog 36 #[.slice ao n cap] w (LogsN w) := by
  have HB := hide hB
  clear hB
  go_enter Try.func36, Try.ntmps36
  go_wp2_with fail
  refine (c123 bs ao n cap _ hn hc hm (unhide HB)).mono ?_
  rintro e w1 ⟨rfl, hr1, hb1, hl1⟩
  clear HB hn hc hm
  go_wp2_with fail
  refine (c124 w.heap.size 0 9 _ (by omega) (by omega) hr1).mono ?_
  rintro e w2 ⟨v, es, rfl, hes, ho, hr, hg⟩
  have hs := hl1
  have HB2 := hide (below_of_grown hb1 hg)
  have HO2 := hide ho
  have HR2 := hide hr
  clear ho hr hg hr1
  go_wp2_with fail
  refine (c129 w.heap.size (0 + 260) 9 _ (by omega) (unhide HR2)).mono ?_
  rintro e w3 ⟨x, rfl, hx0, hx1, hr, hg⟩
  have hx1 := hx1 (by omega)
  have HB3 := hide (below_of_grown (unhide HB2) hg)
  have HO3 := hide ((unhide HO2).kptG hg (fun b hb e => by have := ((unhide HO2).blk b hb).1; cases e; omega))
  have HR3 := hide hr
  clear hr hg HB2 HO2 HR2
  go_wp2_with fail
  refine (c129 w.heap.size (0 + 260 + 1) 2 _ (by omega) (unhide HR3)).mono ?_
  rintro e w4 ⟨y, rfl, hy0, hy1, hr, hg⟩
  have hy1 := hy1 (by omega)
  have HB4 := hide (below_of_grown (unhide HB3) hg)
  have HO4 := hide (((unhide HO3).kptG hg (fun b hb e => by have := ((unhide HO3).blk b hb).1; cases e; omega)).mono (Nat.le_of_lt hs))
  clear hr hg HB3 HO3 HR3
  go_wp2_with fail
  go_ret2
  exact ⟨v, es, x - y, rfl, hes, by omega, unhide HO4, unhide HB4⟩

set_option maxHeartbeats 1000000 in
theorem c76 (bs : List Int) (ao : Option Addr) (n cap : Nat) (w : World) (hn : bs.length = n) (hc : n ≤ cap) (hm : cap ≤ maxLen) (hB : Bytes w ao bs) :
    Calls Try.prog 76 #[.slice ao n cap] w (LogsN w) := by
  have HB := hide hB
  clear hB
  go_enter Try.func76, Try.ntmps76
  go_wp2_with fail
  refine (c123 bs ao n cap _ hn hc hm (unhide HB)).mono ?_
  rintro e w1 ⟨rfl, hr1, hb1, hl1⟩
  clear HB hn hc hm
  go_wp2_with fail
  refine (c124 w.heap.size 0 9 _ (by omega) (by omega) hr1).mono ?_
  rintro e w2 ⟨v, es, rfl, hes, ho, hr, hg⟩
  have hs := hl1
  have HB2 := hide (below_of_grown hb1 hg)
  have HO2 := hide ho
  have HR2 := hide hr
  obtain ⟨ao2, cap2, rfl, -, -, -⟩ := ho.row
  clear ho hr hg hr1
  go_wp2_with fail
  refine (c129 w.heap.size (0 + 260) ((es.length : Int) + 3) _ (by omega) (unhide HR2)).mono ?_
  rintro e w3 ⟨x, rfl, hx0, hx1, hr, hg⟩
  have hx1 := hx1 (by omega)
  have HB3 := hide (below_of_grown (unhide HB2) hg)
  have HO3 := hide (((unhide HO2).kptG hg (fun b hb e => by have := ((unhide HO2).blk b hb).1; cases e; omega)).mono (Nat.le_of_lt hs))
  clear hr hg HB2 HO2 HR2
  go_wp2_with fail
  go_ret2
  exact ⟨_, es, x - 1, rfl, hes, by omega, unhide HO3, unhide HB3⟩

set_option maxHeartbeats 1000000 in
theorem c82 (bs : List Int) (ao : Option Addr) (n cap : Nat) (w : World) (hn : bs.length = n) (hc : n ≤ cap) (hm : cap ≤ maxLen) (hB : Bytes w ao bs) :
    Calls Try.prog 82 #[.slice ao n cap] w (LogsN w) := by
  have HB := hide hB
  clear hB
  go_enter Try.func82, Try.ntmps82
  go_wp2_with fail
  refine (c76 bs ao n cap _ hn hc hm (unhide HB)).mono ?_
  rintro e w1 ⟨v, es, t, rfl, hes, ht, ho, hb⟩
  have HO := hide ho
  have HBB := hide hb
  clear HB hn hc hm ho hb
  go_wp2_with fail
  go_ret2
  exact ⟨v, es, t, rfl, hes, ht, unhide HO, unhide HBB⟩
end Go.Proofs.Ytanbahgfkegfjaa
