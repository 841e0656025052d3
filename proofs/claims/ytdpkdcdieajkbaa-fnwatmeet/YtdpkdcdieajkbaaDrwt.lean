/-
  The draws of heads that are kept, twice, and with entries.
-/
import Derived.Test.YtdpkdcdieajkbaaKept
namespace Go.Proofs.Ytdpkdcdieajkbaa
open Go.RowKit
set_option linter.unusedVariables false
set_option maxRecDepth 100000

/-- two lots of heads, drawn of a code -/
def WatsD (w : World) (e : Ending) (w' : World) : Prop :=
  ∃ (v v2 : Value) (xs ys : List Tm.Hed), e = .returned (.tuple #[v, v2]) ∧ xs.length ≤ 6 ∧ ys.length ≤ 6 ∧ WOwn w' w.heap.size v xs ∧ WOwn w' w.heap.size v2 ys ∧ Below w.heap.size w w'
/-- heads and entries, drawn of a code -/
def WateD (w : World) (e : Ending) (w' : World) : Prop :=
  ∃ (v v2 : Value) (xs : List Tm.Hed) (es : List Tm.Ent), e = .returned (.tuple #[v, v2]) ∧ xs.length ≤ 6 ∧ es.length ≤ 41 ∧ WOwn w' w.heap.size v xs ∧ EOwn w' w.heap.size v2 es ∧ Below w.heap.size w w'
theorem EOwn.mono2 {w : World} {base base' : Nat} {v : Value} {zs : List Tm.Ent} (h : EOwn w base v zs) (hb : base' ≤ base) : EOwn w base' v zs := ⟨h.1, owns_mono h.2 hb⟩

set_option maxHeartbeats 8000000 in
theorem c54 (bs : List Int) (ao : Option Addr) (n cap : Nat) (w : World) (hn : bs.length = n) (hc : n ≤ cap) (hm : cap ≤ maxLen) (hB : Bytes w ao bs) :
    Calls Try.prog 54 #[.slice ao n cap] w (WatsD w) := by
  have HB := hide (Below.refl w.heap.size w)
  have HBY := hide hB
  clear hB
  go_enter Try.func54, Try.ntmps54
  go_wp2_with fail
  refine (c119 bs ao n cap _ hn hc hm (unhide HBY)).mono ?_
  rintro e w1 ⟨rfl, hr, hb, hl1⟩
  clear HBY
  replace HB := hide (below_tr (unhide HB) hb)
  have HRd := hide hr
  clear hr hb
  go_wp2_with fail
  refine (c120 w.heap.size (0) 99999 _ (by omega) (by omega) (unhide HRd)).mono ?_
  rintro e w2 ⟨v, es, rfl, hesl, ho, hr, hg⟩
  obtain ⟨ales, caples, rfl, hcles, -, -⟩ := ho.row
  have hbasees : w.heap.size < w1.heap.size := (unhide HRd).lt
  replace HB := hide (below_gr (unhide HB) hg (by omega))
  replace HRd := hide hr
  clear hr hg
  have HO := hide ho
  clear ho
  go_wp2_with fail
  refine (c141 w.heap.size (0 + 260) 12 es ales es.length caples w1.heap.size _ (by omega) (by omega) (unhide HRd) rfl hesl hcles hbasees (unhide HO)).mono ?_
  rintro e w3 ⟨vxs, xs, rfl, hlxs, hw, hr, hg⟩
  have hbasexs : w.heap.size < w2.heap.size := (unhide HRd).lt
  have hszxs := (unhide HB).size
  replace HB := hide (below_gr (unhide HB) hg (by omega))
  replace HO := hide ((unhide HO).kg hg (by omega))
  replace HRd := hide hr
  clear hr hg
  have HW := hide hw
  clear hw
  go_wp2_with fail
  refine (c141 w.heap.size (0 + 260 + 30) 12 es ales es.length caples w1.heap.size _ (by omega) (by omega) (unhide HRd) rfl hesl hcles hbasees (unhide HO)).mono ?_
  rintro e w4 ⟨vys, ys, rfl, hlys, hw, hr, hg⟩
  have hbaseys : w.heap.size < w3.heap.size := (unhide HRd).lt
  have hszys := (unhide HB).size
  replace HB := hide (below_gr (unhide HB) hg (by omega))
  replace HO := hide ((unhide HO).kg hg (by omega))
  replace HW := hide ((unhide HW).kg hg (by omega))
  replace HRd := hide hr
  clear hr hg
  have HV := hide hw
  clear hw
  go_wp2_with fail
  go_ret2
  exact ⟨_, _, xs, ys, rfl, hlxs, hlys, (unhide HW).mono hszxs, (unhide HV).mono hszys, unhide HB⟩

set_option maxHeartbeats 8000000 in
theorem c57 (bs : List Int) (ao : Option Addr) (n cap : Nat) (w : World) (hn : bs.length = n) (hc : n ≤ cap) (hm : cap ≤ maxLen) (hB : Bytes w ao bs) :
    Calls Try.prog 57 #[.slice ao n cap] w (WateD w) := by
  have HB := hide (Below.refl w.heap.size w)
  have HBY := hide hB
  clear hB
  go_enter Try.func57, Try.ntmps57
  go_wp2_with fail
  refine (c119 bs ao n cap _ hn hc hm (unhide HBY)).mono ?_
  rintro e w1 ⟨rfl, hr, hb, hl1⟩
  clear HBY
  replace HB := hide (below_tr (unhide HB) hb)
  have HRd := hide hr
  clear hr hb
  go_wp2_with fail
  have hsz0es := (unhide HB).size
  refine (c120 w.heap.size (0) 99999 _ (by omega) (by omega) (unhide HRd)).mono ?_
  rintro e w2 ⟨v, es, rfl, hesl, ho, hr, hg⟩
  obtain ⟨ales, caples, rfl, hcles, -, -⟩ := ho.row
  have hbasees : w.heap.size < w1.heap.size := (unhide HRd).lt
  replace HB := hide (below_gr (unhide HB) hg (by omega))
  replace HRd := hide hr
  clear hr hg
  have HO := hide ho
  clear ho
  go_wp2_with fail
  refine (c141 w.heap.size (0 + 260) 12 es ales es.length caples w1.heap.size _ (by omega) (by omega) (unhide HRd) rfl hesl hcles hbasees (unhide HO)).mono ?_
  rintro e w3 ⟨vxs, xs, rfl, hlxs, hw, hr, hg⟩
  have hbasexs : w.heap.size < w2.heap.size := (unhide HRd).lt
  have hszxs := (unhide HB).size
  replace HB := hide (below_gr (unhide HB) hg (by omega))
  replace HO := hide ((unhide HO).kg hg (by omega))
  replace HRd := hide hr
  clear hr hg
  have HW := hide hw
  clear hw
  go_wp2_with fail
  refine (c124 w.heap.size (0 + 260 + 30) 6 _ (by omega) (by omega) (unhide HRd)).mono ?_
  rintro e w4 ⟨b1, rfl, hr, hg⟩
  replace HB := hide (below_gr (unhide HB) hg (by omega))
  replace HO := hide ((unhide HO).kg hg (by omega))
  replace HW := hide ((unhide HW).kg hg (by omega))
  replace HRd := hide hr
  clear hr hg
  cases b1
  case false =>
    go_wp2_with fail
    go_ret2
    exact ⟨_, _, xs, es, rfl, hlxs, hesl, (unhide HW).mono hszxs, (unhide HO).mono2 hsz0es, unhide HB⟩
  go_wp2_with fail
  have hsz2 := (unhide HB).size
  clear HO
  refine (c120 w.heap.size (0 + 260 + 30 + 1) 3 _ (by omega) (by omega) (unhide HRd)).mono ?_
  rintro e w5 ⟨v, es2, rfl, hes2, ho, hr, hg⟩
  have hb2 : w.heap.size < w4.heap.size := (unhide HRd).lt
  replace HB := hide (below_gr (unhide HB) hg (by omega))
  replace HW := hide ((unhide HW).kg hg (by omega))
  replace HRd := hide hr
  clear hr hg
  have HO := hide ho
  clear ho
  go_wp2_with fail
  go_ret2
  exact ⟨_, _, xs, es2, rfl, hlxs, hes2, (unhide HW).mono hszxs, (unhide HO).mono2 hsz2, unhide HB⟩
end Go.Proofs.Ytdpkdcdieajkbaa
