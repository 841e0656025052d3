/-
  The draws of entries: of a code alone.
-/
import Derived.Test.YtimaidcjccakeaaLogb
namespace Go.Proofs.Ytimaidcjccakeaa
open Go.RowKit
set_option linter.unusedVariables false
set_option maxRecDepth 100000

theorem EOwn.mono {w : World} {b b' : Nat} {v : Value} {es : List Tm.Ent} (h : EOwn w b' v es) (hb : b ≤ b') : EOwn w b v es := ⟨h.1, owns_mono h.2 hb⟩
/-- what a draw of entries leaves, of a code alone -/
def LogsD (w : World) (e : Ending) (w' : World) : Prop :=
  ∃ (v : Value) (es : List Tm.Ent), e = .returned v ∧ es.length ≤ 41 ∧ EOwn w' w.heap.size v es ∧ Below w.heap.size w w'
/-- entries, and a number -/
def LogsN (w : World) (e : Ending) (w' : World) : Prop :=
  ∃ (v : Value) (es : List Tm.Ent) (t : Int), e = .returned (.tuple #[v, .int .i64 t]) ∧ es.length ≤ 41 ∧ (-1 ≤ t ∧ t ≤ 100) ∧ EOwn w' w.heap.size v es ∧ Below w.heap.size w w'

set_option maxHeartbeats 1000000 in
theorem c47 (bs : List Int) (ao : Option Addr) (n cap : Nat) (w : World) (hn : bs.length = n) (hc : n ≤ cap) (hm : cap ≤ maxLen) (hB : Bytes w ao bs) :
    Calls Try.prog 47 #[.slice ao n cap] w (LogsD w) := by
  have HB := hide hB
  clear hB
  go_enter Try.func47, Try.ntmps47
  go_wp2_with fail
  refine (c129 bs ao n cap _ hn hc hm (unhide HB)).mono ?_
  rintro e w1 ⟨rfl, hr1, hb1, hl1⟩
  clear HB hn hc hm
  go_wp2_with fail
  refine (c130 w.heap.size 0 3 _ (by omega) (by omega) hr1).mono ?_
  rintro e w2 ⟨v, es, rfl, hes, ho, hr, hg⟩
  have HB2 := hide (below_of_grown hb1 hg)
  have HO2 := hide (ho.mono hb1.size)
  clear ho hr hg hr1 hb1 hl1
  go_wp2_with fail
  go_ret
  exact ⟨v, es, rfl, hes, unhide HO2, unhide HB2⟩

set_option maxHeartbeats 1000000 in
theorem c28 (bs : List Int) (ao : Option Addr) (n cap : Nat) (w : World) (hn : bs.length = n) (hc : n ≤ cap) (hm : cap ≤ maxLen) (hB : Bytes w ao bs) :
    Calls Try.prog 28 #[.slice ao n cap] w (LogsD w) := by
  have HB := hide hB
  clear hB
  go_enter Try.func28, Try.ntmps28
  go_wp2_with fail
  refine (c129 bs ao n cap _ hn hc hm (unhide HB)).mono ?_
  rintro e w1 ⟨rfl, hr1, hb1, hl1⟩
  clear HB hn hc hm
  go_wp2_with fail
  refine (c130 w.heap.size 0 6 _ (by omega) (by omega) hr1).mono ?_
  rintro e w2 ⟨v, es, rfl, hes, ho, hr, hg⟩
  have HB2 := hide (below_of_grown hb1 hg)
  have HO2 := hide (ho.mono hb1.size)
  clear ho hr hg hr1 hb1 hl1
  go_wp2_with fail
  go_ret
  exact ⟨v, es, rfl, hes, unhide HO2, unhide HB2⟩

set_option maxHeartbeats 1000000 in
theorem c70 (bs : List Int) (ao : Option Addr) (n cap : Nat) (w : World) (hn : bs.length = n) (hc : n ≤ cap) (hm : cap ≤ maxLen) (hB : Bytes w ao bs) :
    Calls Try.prog 70 #[.slice ao n cap] w (LogsD w) := by
  have HB := hide hB
  clear hB
  go_enter Try.func70, Try.ntmps70
  go_wp2_with fail
  refine (c129 bs ao n cap _ hn hc hm (unhide HB)).mono ?_
  rintro e w1 ⟨rfl, hr1, hb1, hl1⟩
  clear HB hn hc hm
  go_wp2_with fail
  refine (c130 w.heap.size 0 5 _ (by omega) (by omega) hr1).mono ?_
  rintro e w2 ⟨v, es, rfl, hes, ho, hr, hg⟩
  have HB2 := hide (below_of_grown hb1 hg)
  have HO2 := hide (ho.mono hb1.size)
  clear ho hr hg hr1 hb1 hl1
  go_wp2_with fail
  go_ret
  exact ⟨v, es, rfl, hes, unhide HO2, unhide HB2⟩

set_option maxHeartbeats 1000000 in
theorem c73 (bs : List Int) (ao : Option Addr) (n cap : Nat) (w : World) (hn : bs.length = n) (hc : n ≤ cap) (hm : cap ≤ maxLen) (hB : Bytes w ao bs) :
    Calls Try.prog 73 #[.slice ao n cap] w (LogsN w) := by
  have HB := hide hB
  clear hB
  go_enter Try.func73, Try.ntmps73
  go_wp2_with fail
  refine (c129 bs ao n cap _ hn hc hm (unhide HB)).mono ?_
  rintro e w1 ⟨rfl, hr1, hb1, hl1⟩
  clear HB hn hc hm
  go_wp2_with fail
  refine (c130 w.heap.size 0 9 _ (by omega) (by omega) hr1).mono ?_
  rintro e w2 ⟨v, es, rfl, hes, ho, hr, hg⟩
  have hs := hl1
  have HB2 := hide (below_of_grown hb1 hg)
  have HO2 := hide ho
  have HR2 := hide hr
  obtain ⟨ao2, cap2, rfl, -, -, -⟩ := ho.row
  clear ho hr hg hr1
  go_wp2_with fail
  refine (c144 w.heap.size (0 + 260) ((es.length : Int) + 3) _ (by omega) (unhide HR2)).mono ?_
  rintro e w3 ⟨x, rfl, hx0, hx1, hr, hg⟩
  have hx1 := hx1 (by omega)
  have HB3 := hide (below_of_grown (unhide HB2) hg)
  have HO3 := hide (((unhide HO2).kptG hg (fun b hb e => by have := ((unhide HO2).blk b hb).1; cases e; omega)).mono (Nat.le_of_lt hs))
  clear hr hg HB2 HO2 HR2
  go_wp2_with fail
  go_ret2
  exact ⟨_, es, x - 1, rfl, hes, by omega, unhide HO3, unhide HB3⟩

set_option maxHeartbeats 1000000 in
theorem c79 (bs : List Int) (ao : Option Addr) (n cap : Nat) (w : World) (hn : bs.length = n) (hc : n ≤ cap) (hm : cap ≤ maxLen) (hB : Bytes w ao bs) :
    Calls Try.prog 79 #[.slice ao n cap] w (LogsN w) := by
  have HB := hide hB
  clear hB
  go_enter Try.func79, Try.ntmps79
  go_wp2_with fail
  refine (c73 bs ao n cap _ hn hc hm (unhide HB)).mono ?_
  rintro e w1 ⟨v, es, t, rfl, hes, ht, ho, hb⟩
  have HO := hide ho
  have HBB := hide hb
  clear HB hn hc hm ho hb
  go_wp2_with fail
  go_ret2
  exact ⟨v, es, t, rfl, hes, ht, unhide HO, unhide HBB⟩
end Go.Proofs.Ytimaidcjccakeaa
