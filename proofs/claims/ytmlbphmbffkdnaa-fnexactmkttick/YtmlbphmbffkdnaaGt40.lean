/-
  Texts of the proof, what it needs of them: Tick.
-/
import Derived.Test.YtmlbphmbffkdnaaGt32
import Derived.Test.YtmlbphmbffkdnaaGt39
namespace Go.Proofs.Ytmlbphmbffkdnaa
open Go.RowKit
set_option linter.unusedVariables false
set_option maxRecDepth 100000

set_option maxHeartbeats 1000000 in
theorem c118 (g : Nat) (v0 : Value) (a1 : Option Addr) (k1 : Nat) (v2 v3 v4 v5 : Value) (pu : List Int) (u n : Int) (w : World) (HG : Box w g [v0, .slice a1 pu.length k1, v2, v3, v4, v5]) (hr : Row w a1 pu) (hz : a1 = none → k1 = 0) (hb : pu.length ≤ 1048576) (hn : -9223372036854775808 ≤ n ∧ n ≤ 9223372036854775807) :
    Calls Try.prog 118 #[.pointer (some ⟨g, 0, none⟩), .int .i64 u, .int .i64 n] w fun e w' => e = .returned (.tuple #[]) ∧ ∃ V v, Below w.heap.size w V ∧ Own V w.heap.size v (Tm.monTurn pu u n) ∧ w' = V.setCell ⟨g, 1, none⟩ v := by
  have HQ := hide HG
  have y1 := HG.cell 1 rfl
  have HR := hide hr
  have HZ := hide hz
  clear HG hr hz
  go_enter Try.func118, Try.ntmps118
  go_wp2_with fail
  refine (c176 pu u n a1 pu.length k1 _ rfl hb hn (unhide HZ) (unhide HR)).mono ?_
  rintro e w1 ⟨v, rfl, ho, hb1⟩
  obtain ⟨b, j, rfl⟩ := live_form ho.2
  have HO := hide ho
  have HB1 := hide hb1
  replace HQ := hide ((unhide HQ).bel hb1)
  clear ho hb1 y1
  have y1 := (unhide HQ).cell 1 rfl
  have y1f := (unhide HQ).frozen 1 rfl
  go_wp2_with fail
  go_end0
  exact ⟨rfl, _, _, unhide HB1, unhide HO, rfl⟩
end Go.Proofs.Ytmlbphmbffkdnaa
