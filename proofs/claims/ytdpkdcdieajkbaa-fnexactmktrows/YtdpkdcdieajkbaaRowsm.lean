/-
  How all tickets of a market stand.
-/
import Derived.Test.YtdpkdcdieajkbaaHout
import Derived.Test.YtdpkdcdieajkbaaOwl
namespace Go.Proofs.Ytdpkdcdieajkbaa
open Go.RowKit
set_option linter.unusedVariables false
set_option maxRecDepth 100000

/-- rows that the call made -/
def RTold1 (w : World) (rs : List Tm.Rw) (e : Ending) (w' : World) : Prop := ∃ v, e = .returned v ∧ ROwn w' w.heap.size v rs ∧ Below w.heap.size w w'
theorem ROwn.monoH {w : World} {base base' : Nat} {v : Value} {rs : List Tm.Rw} (h : ROwn w base v rs) (hb : base' ≤ base) : ROwn w base' v rs := by
  obtain ⟨f, t, h2⟩ := h
  exact ⟨f, t, owns_mono h2 hb⟩

set_option maxHeartbeats 4000000 in
theorem c77 (h : House) (q : HP) (w : World) (hs : h.es.length ≤ 1048576) (hr : HRow w q h) : Calls Try.prog 77 #[hV q h] w (RTold1 w (foldRows h.es)) := by
  obtain ⟨es, pu, ds, cl, nu, sa⟩ := h
  obtain ⟨a0, k0, a1, k1, a2, k2, a4, k4, a5, k5⟩ := q
  have HR := hide hr.1
  clear hr
  dsimp only at hs HR ⊢
  have HB := hide (Below.refl w.heap.size w)
  replace HB := hide (below_al (o := .cells #[.slice a0 es.length k0, .slice a1 pu.length k1, .slice a2 ds.length k2, .int .i64 cl, .slice a4 nu.length k4, .slice a5 sa.length k5] 97) (unhide HB))
  have HX := hide (box_new w [.slice a0 es.length k0, .slice a1 pu.length k1, .slice a2 ds.length k2, .int .i64 cl, .slice a4 nu.length k4, .slice a5 sa.length k5] 97 (by simp [Value.oneCell']))
  (try simp only [World.size_alloc] at HX)
  have x0c := (unhide HX).cell 0 rfl
  have x1c := (unhide HX).cell 1 rfl
  have x2c := (unhide HX).cell 2 rfl
  have x3c := (unhide HX).cell 3 rfl
  have x4c := (unhide HX).cell 4 rfl
  have x5c := (unhide HX).cell 5 rfl
  go_enter Try.func77, Try.ntmps77
  go_wp2_with fail
  refine (c160 es a0 es.length k0 _ rfl hs ((unhide HR).bel (unhide HB))).mono ?_
  rintro e w1 ⟨v, rfl, ho, hb⟩
  (try clear x0c x1c x2c x3c x4c x5c)
  have HF2 := hide (below_tr (unhide HB) hb)
  have HO2 := hide (ho.monoH (unhide HB).size)
  clear hb ho
  go_wp2_with fail
  go_ret
  exact ⟨_, rfl, unhide HO2, unhide HF2⟩

set_option maxHeartbeats 4000000 in
theorem c76 (h : House) (q : HP) (w : World) (hs : h.es.length ≤ 1048576) (hr : HRow w q h) : Calls Try.prog 76 #[hV q h] w (RTold1 w (foldRows h.es)) := by
  obtain ⟨es, pu, ds, cl, nu, sa⟩ := h
  obtain ⟨a0, k0, a1, k1, a2, k2, a4, k4, a5, k5⟩ := q
  have HR := hide hr.1
  clear hr
  dsimp only at hs HR ⊢
  have HB := hide (Below.refl w.heap.size w)
  replace HB := hide (below_al (o := .cells #[.slice a0 es.length k0, .slice a1 pu.length k1, .slice a2 ds.length k2, .int .i64 cl, .slice a4 nu.length k4, .slice a5 sa.length k5] 97) (unhide HB))
  have HX := hide (box_new w [.slice a0 es.length k0, .slice a1 pu.length k1, .slice a2 ds.length k2, .int .i64 cl, .slice a4 nu.length k4, .slice a5 sa.length k5] 97 (by simp [Value.oneCell']))
  (try simp only [World.size_alloc] at HX)
  have x0c := (unhide HX).cell 0 rfl
  have x1c := (unhide HX).cell 1 rfl
  have x2c := (unhide HX).cell 2 rfl
  have x3c := (unhide HX).cell 3 rfl
  have x4c := (unhide HX).cell 4 rfl
  have x5c := (unhide HX).cell 5 rfl
  go_enter Try.func76, Try.ntmps76
  go_wp2_with fail
  refine (c154 es a0 es.length k0 _ rfl hs ((unhide HR).bel (unhide HB))).mono ?_
  rintro e w1 ⟨v, rfl, ho, hb⟩
  (try clear x0c x1c x2c x3c x4c x5c)
  have HF2 := hide (below_tr (unhide HB) hb)
  have HO2 := hide (ho.monoH (unhide HB).size)
  clear hb ho
  go_wp2_with fail
  go_ret
  exact ⟨_, rfl, unhide HO2, unhide HF2⟩
end Go.Proofs.Ytdpkdcdieajkbaa
