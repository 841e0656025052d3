/-
  Texts of the proof, what it needs of them: Clon.
-/
import Derived.Test.YtmlbphmbffkdnaaGt01
import Derived.Test.YtmlbphmbffkdnaaGt30
namespace Go.Proofs.Ytmlbphmbffkdnaa
open Go.RowKit
set_option linter.unusedVariables false
set_option maxRecDepth 100000

theorem Live.kg {w w' : World} {base r : Nat} {L : List LRow} (h : Live w base L) (hg : w.grownBy w' (some r)) (hr : r < base) : Live w' base L :=
  ⟨fun x hx => (h.1 x hx).kept hg (by
    rcases e : x.2.2.1.ownBlock with _ | b
    · exact .inl rfl
    · refine .inr fun e2 => ?_
      cases e2
      have := ((h.1 x hx).lt _ e).1
      omega), h.2⟩
theorem Live.lower {w : World} {base base' : Nat} {L : List LRow} (h : Live w base L) (hb : base' ≤ base) : Live w base' L := ⟨fun x hx => owns_mono (h.1 x hx) hb, h.2⟩
def DTold (w : World) (ds : List Tm.Deal) (e : Ending) (w' : World) : Prop := ∃ v, e = .returned v ∧ DOwn w' w.heap.size v ds ∧ Below w.heap.size w w'
set_option maxHeartbeats 1000000 in
theorem c174 (es : List Tm.Ent) (ao : Option Addr) (n cap : Nat) (w : World) (hn : es.length = n) (hm : n ≤ 1048576) (hr : ERow w ao es) :
    Calls Try.prog 174 #[.slice ao n cap] w (ETold w es) := by
  subst hn
  have HF := hide hr.1
  have HS := hide (srcE (c := cap) hr)
  have HO := hide (owns_nil w w.heap.size 4 134 (Nat.le_refl _))
  clear hr
  go_enter Try.func174, Try.ntmps174
  go_wp2_with (first | (at_builtin; refine wpList_copy (by rfl) _ _ 25 (by rfl) w.heap.size 134 4 32 elE (.slice none 0 0) (by rfl) (unhide HO) ao es.length cap (es.flatMap eCells) (by rfl) (unhide HS) (by unfold maxLen; omega) (by omega) (Nat.le_refl _) ?_; intro v' w2 ho hg hv) | fail)
  have HW := hide ho
  have HG := hide ((Below.refl w.heap.size w).grown hg (Nat.le_refl _) (fun q hq => by cases hq))
  clear ho hg hv
  go_wp2_with fail
  go_ret
  exact ⟨_, rfl, ⟨unhide HF, unhide HW⟩, unhide HG⟩

set_option maxHeartbeats 1000000 in
theorem c175 (es : List Tm.Deal) (ao : Option Addr) (n cap : Nat) (w : World) (hn : es.length = n) (hm : n ≤ 1048576) (hr : DRow w ao es) :
    Calls Try.prog 175 #[.slice ao n cap] w (DTold w es) := by
  subst hn
  have HF := hide hr.1
  have HS := hide (srcD (c := cap) hr)
  have HO := hide (owns_nil w w.heap.size 5 42 (Nat.le_refl _))
  clear hr
  go_enter Try.func175, Try.ntmps175
  go_wp2_with (first | (at_builtin; refine wpList_copy (by rfl) _ _ 26 (by rfl) w.heap.size 42 5 40 elD (.slice none 0 0) (by rfl) (unhide HO) ao es.length cap (es.flatMap dCells) (by rfl) (unhide HS) (by unfold maxLen; omega) (by omega) (Nat.le_refl _) ?_; intro v' w2 ho hg hv) | fail)
  have HW := hide ho
  have HG := hide ((Below.refl w.heap.size w).grown hg (Nat.le_refl _) (fun q hq => by cases hq))
  clear ho hg hv
  go_wp2_with fail
  go_ret
  exact ⟨_, rfl, ⟨unhide HF, unhide HW⟩, unhide HG⟩

/-- a nil list has no room -/
def HLen2 (q : HP) : Prop := (q.a1 = none → q.k1 = 0) ∧ (q.a4 = none → q.k4 = 0) ∧ (q.a5 = none → q.k5 = 0)

set_option maxHeartbeats 8000000 in
theorem c117 (h : House) (q : HP) (w : World) (hs : Small h) (hz : HLen2 q) (hr : HRow w q h) : Calls Try.prog 117 #[hV q h] w (HTold w h) := by
  have HZ1 := hide hz.1
  have HZ4 := hide hz.2.1
  have HZ5 := hide hz.2.2
  clear hz
  obtain ⟨es, pu, ds, cl, nu, sa⟩ := h
  obtain ⟨a0, k0, a1, k1, a2, k2, a4, k4, a5, k5⟩ := q
  have HRR := hide hr
  have HSM := hide hs
  clear hr hs
  have HB := hide (Below.refl w.heap.size w)
  replace HB := hide (below_al (o := .cells #[.slice a0 es.length k0, .slice a1 pu.length k1, .slice a2 ds.length k2, .int .i64 cl, .slice a4 nu.length k4, .slice a5 sa.length k5] 28) (unhide HB))
  have HX := hide (box_new w [.slice a0 es.length k0, .slice a1 pu.length k1, .slice a2 ds.length k2, .int .i64 cl, .slice a4 nu.length k4, .slice a5 sa.length k5] 28 (by simp [Value.oneCell']))
  (try simp only [World.size_alloc] at HX)
  replace HB := hide (below_al (o := .cells #[.slice none 0 0, .slice none 0 0, .slice none 0 0, .int .i64 0, .slice none 0 0, .slice none 0 0] 28) (unhide HB))
  replace HX := hide ((unhide HX).bel (below_a (.cells #[.slice none 0 0, .slice none 0 0, .slice none 0 0, .int .i64 0, .slice none 0 0, .slice none 0 0] 28)))
  have HY := hide (box_new (w.alloc (.cells #[.slice a0 es.length k0, .slice a1 pu.length k1, .slice a2 ds.length k2, .int .i64 cl, .slice a4 nu.length k4, .slice a5 sa.length k5] 28)) [.slice none 0 0, .slice none 0 0, .slice none 0 0, .int .i64 0, .slice none 0 0, .slice none 0 0] 28 (by simp [Value.oneCell']))
  (try simp only [World.size_alloc] at HY)
  have x0 := (unhide HX).cell 0 rfl
  have x1 := (unhide HX).cell 1 rfl
  have x2 := (unhide HX).cell 2 rfl
  have x3 := (unhide HX).cell 3 rfl
  have x4 := (unhide HX).cell 4 rfl
  have x5 := (unhide HX).cell 5 rfl
  have y0 := (unhide HY).cell 0 rfl
  have y1 := (unhide HY).cell 1 rfl
  have y2 := (unhide HY).cell 2 rfl
  have y3 := (unhide HY).cell 3 rfl
  have y4 := (unhide HY).cell 4 rfl
  have y5 := (unhide HY).cell 5 rfl
  go_enter Try.func117, Try.ntmps117
  go_wp2_with fail
  (try clear x0 x1 x2 x3 x4 x5 y0 y1 y2 y3 y4 y5)
  have hbs : w.heap.size + 1 < ((w.alloc (.cells #[.slice a0 es.length k0, .slice a1 pu.length k1, .slice a2 ds.length k2, .int .i64 cl, .slice a4 nu.length k4, .slice a5 sa.length k5] 28)).alloc (.cells #[.slice none 0 0, .slice none 0 0, .slice none 0 0, .int .i64 0, .slice none 0 0, .slice none 0 0] 28)).heap.size := by simp
  have HBS := hide hbs
  generalize (w.alloc (.cells #[.slice a0 es.length k0, .slice a1 pu.length k1, .slice a2 ds.length k2, .int .i64 cl, .slice a4 nu.length k4, .slice a5 sa.length k5] 28)).alloc (.cells #[.slice none 0 0, .slice none 0 0, .slice none 0 0, .int .i64 0, .slice none 0 0, .slice none 0 0] 28) = W at *
  (try clear x0 x1 x2 x3 x4 x5 y0 y1 y2 y3 y4 y5)
  refine wp_region_L (fun w' => Box w' (w.heap.size) [.slice a0 es.length k0, .slice a1 pu.length k1, .slice a2 ds.length k2, .int .i64 cl, .slice a4 nu.length k4, .slice a5 sa.length k5]) [10, 12, 14] (by kernel_rfl) ((unhide HX).bel (below_drew W)) (fun hHeld => ?_)
  refine tkL 0 (some 3) (v := ?_) ?_ ?_
  rotate_left
  · intro w hSw
    first | (go_simp; done) | (go_simp; with_reducible rfl) | with_reducible rfl | rfl
  try simp only [Act.put, List.setIfInBounds_toArray, List.set_cons_zero, List.set_cons_succ]
  refine tkL 1 (some 4) (v := ?_) ?_ ?_
  rotate_left
  · intro w hSw
    have x0 := hSw.cell 0 rfl; have x1 := hSw.cell 1 rfl; have x2 := hSw.cell 2 rfl; have x3 := hSw.cell 3 rfl; have x4 := hSw.cell 4 rfl; have x5 := hSw.cell 5 rfl
    first | (go_simp; done) | (go_simp; with_reducible rfl) | with_reducible rfl | rfl
  try simp only [Act.put, List.setIfInBounds_toArray, List.set_cons_zero, List.set_cons_succ]
  refine tkL 3 (some 6) (v := ?_) ?_ ?_
  rotate_left
  · intro w hSw
    first | (go_simp; done) | (go_simp; with_reducible rfl) | with_reducible rfl | rfl
  try simp only [Act.put, List.setIfInBounds_toArray, List.set_cons_zero, List.set_cons_succ]
  refine tkL 4 (some 7) (v := ?_) ?_ ?_
  rotate_left
  · intro w hSw
    have x0 := hSw.cell 0 rfl; have x1 := hSw.cell 1 rfl; have x2 := hSw.cell 2 rfl; have x3 := hSw.cell 3 rfl; have x4 := hSw.cell 4 rfl; have x5 := hSw.cell 5 rfl
    first | (go_simp; done) | (go_simp; with_reducible rfl) | with_reducible rfl | rfl
  try simp only [Act.put, List.setIfInBounds_toArray, List.set_cons_zero, List.set_cons_succ]
  refine tkL 6 (some 9) (v := ?_) ?_ ?_
  rotate_left
  · intro w hSw
    first | (go_simp; done) | (go_simp; with_reducible rfl) | with_reducible rfl | rfl
  try simp only [Act.put, List.setIfInBounds_toArray, List.set_cons_zero, List.set_cons_succ]
  refine tkL 7 (some 10) (v := ?_) ?_ ?_
  rotate_left
  · intro w hSw
    have x0 := hSw.cell 0 rfl; have x1 := hSw.cell 1 rfl; have x2 := hSw.cell 2 rfl; have x3 := hSw.cell 3 rfl; have x4 := hSw.cell 4 rfl; have x5 := hSw.cell 5 rfl
    first | (go_simp; done) | (go_simp; with_reducible rfl) | with_reducible rfl | rfl
  try simp only [Act.put, List.setIfInBounds_toArray, List.set_cons_zero, List.set_cons_succ]
  have HD := below_drew W
  generalize W.drew = V0 at *
  have hL : Live V0 W.heap.size [] := live_nil _ _
  refine callL 2 (o := { dst := some 5, op := _, type := _, pos := _, after := _, guard := _ }) (fun K hK => ?_)
  go_simp
  go_at_call 174
  refine (c174 es a0 es.length k0 _ rfl (unhide HSM).1 ((unhide HRR).bel (below_tr (unhide HB) HD)).1).mono ?_
  rintro e V1 ⟨v, rfl, ho, hb⟩
  obtain ⟨b0, j0, rfl⟩ := live_form ho.2
  replace hL := live_new (A := []) (C := []) (T := 134) (n := 4) (m := es.length) (cs := (es.flatMap eCells)) (by simpa only [List.append_nil] using hL) hb (owns_mono ho.2 HD.size) (fun k hk => (ho.2.lt k hk).1)
  simp only [List.nil_append] at hL
  clear ho
  replace HD := below_then HD hb
  clear hb
  try go_wp2_with fail
  refine hK.out _ _ ((unhide HX).bel HD) (fun hHeld => ?_)
  clear hK K
  try simp only [Act.put, List.setIfInBounds_toArray, List.set_cons_zero, List.set_cons_succ]
  refine tkL 9 (some 12) (v := ?_) ?_ ?_
  rotate_left
  · intro w hSw
    first | (go_simp; done) | (go_simp; with_reducible rfl) | with_reducible rfl | rfl
  try simp only [Act.put, List.setIfInBounds_toArray, List.set_cons_zero, List.set_cons_succ]
  refine callL 5 (o := { dst := some 8, op := _, type := _, pos := _, after := _, guard := _ }) (fun K hK => ?_)
  go_simp
  go_at_call 106
  refine (c106 pu a1 pu.length k1 _ rfl (unhide HSM).2.1 (unhide HZ1) ((unhide HRR).bel (below_tr (unhide HB) HD)).2.1).mono ?_
  rintro e V2 ⟨v, rfl, ho, hb⟩
  obtain ⟨b1, j1, rfl⟩ := live_form ho.2
  replace hL := live_new (A := [(134, 4, .slice b0 es.length j0, es.length, (es.flatMap eCells))]) (C := []) (T := 3) (n := 1) (m := pu.length) (cs := (pu.map (Value.int .i64))) (by simpa only [List.append_nil] using hL) hb (owns_mono ho.2 HD.size) (fun k hk => (ho.2.lt k hk).1)
  simp only [List.cons_append, List.nil_append] at hL
  clear ho
  replace HD := below_then HD hb
  clear hb
  try go_wp2_with fail
  refine hK.out _ _ ((unhide HX).bel HD) (fun hHeld => ?_)
  clear hK K
  try simp only [Act.put, List.setIfInBounds_toArray, List.set_cons_zero, List.set_cons_succ]
  refine callL 8 (o := { dst := some 11, op := _, type := _, pos := _, after := _, guard := _ }) (fun K hK => ?_)
  go_simp
  go_at_call 175
  refine (c175 ds a2 ds.length k2 _ rfl (unhide HSM).2.2.1 ((unhide HRR).bel (below_tr (unhide HB) HD)).2.2.1).mono ?_
  rintro e V3 ⟨v, rfl, ho, hb⟩
  obtain ⟨b2, j2, rfl⟩ := live_form ho.2
  replace hL := live_new (A := [(134, 4, .slice b0 es.length j0, es.length, (es.flatMap eCells)), (3, 1, .slice b1 pu.length j1, pu.length, (pu.map (Value.int .i64)))]) (C := []) (T := 42) (n := 5) (m := ds.length) (cs := (ds.flatMap dCells)) (by simpa only [List.append_nil] using hL) hb (owns_mono ho.2 HD.size) (fun k hk => (ho.2.lt k hk).1)
  simp only [List.cons_append, List.nil_append] at hL
  clear ho
  replace HD := below_then HD hb
  clear hb
  try go_wp2_with fail
  refine hK.out _ _ ((unhide HX).bel HD) (fun hHeld => ?_)
  clear hK K
  try simp only [Act.put, List.setIfInBounds_toArray, List.set_cons_zero, List.set_cons_succ]
  replace HB := hide (below_tr (unhide HB) HD)
  replace HX := hide ((unhide HX).bel HD)
  replace HY := hide ((unhide HY).bel HD)
  have HWS := hide HD.size
  clear HD 
  have HOL := hide hL
  clear hL
  have x0 := (unhide HX).cell 0 rfl
  have x0f := (unhide HX).frozen 0 rfl
  have x1 := (unhide HX).cell 1 rfl
  have x1f := (unhide HX).frozen 1 rfl
  have x2 := (unhide HX).cell 2 rfl
  have x2f := (unhide HX).frozen 2 rfl
  have x3 := (unhide HX).cell 3 rfl
  have x3f := (unhide HX).frozen 3 rfl
  have x4 := (unhide HX).cell 4 rfl
  have x4f := (unhide HX).frozen 4 rfl
  have x5 := (unhide HX).cell 5 rfl
  have x5f := (unhide HX).frozen 5 rfl
  have y0 := (unhide HY).cell 0 rfl
  have y1 := (unhide HY).cell 1 rfl
  have y2 := (unhide HY).cell 2 rfl
  have y3 := (unhide HY).cell 3 rfl
  have y4 := (unhide HY).cell 4 rfl
  have y5 := (unhide HY).cell 5 rfl
  refine storeL 10 (o := { dst := none, op := _, type := _, pos := _, after := _, guard := _ }) (fun K hK => ?_)
  go_simp
  (try clear x0 x0f x1 x1f x2 x2f x3 x3f x4 x4f x5 x5f y0 y1 y2 y3 y4 y5)
  replace HX := hide (box_put (unhide HX) 0 (.slice b0 es.length j0) (by simp))
  replace HY := hide ((unhide HY).oth (g' := w.heap.size) (i := 0) (.slice b0 es.length j0) (by omega))
  replace HOL := hide ((unhide HOL).kg (grown_cel _ (w.heap.size) 0 (.slice b0 es.length j0)) (by omega))
  replace HB := hide (below_sc (p := ⟨w.heap.size, 0, none⟩) (v := .slice b0 es.length j0) (unhide HB) (by dsimp only; omega))
  replace HX := hide (show Box _ (w.heap.size) [.slice b0 es.length j0, .slice a1 pu.length k1, .slice a2 ds.length k2, .int .i64 cl, .slice a4 nu.length k4, .slice a5 sa.length k5] from unhide HX)
  have x0 := (unhide HX).cell 0 rfl
  have x0f := (unhide HX).frozen 0 rfl
  have x1 := (unhide HX).cell 1 rfl
  have x1f := (unhide HX).frozen 1 rfl
  have x2 := (unhide HX).cell 2 rfl
  have x2f := (unhide HX).frozen 2 rfl
  have x3 := (unhide HX).cell 3 rfl
  have x3f := (unhide HX).frozen 3 rfl
  have x4 := (unhide HX).cell 4 rfl
  have x4f := (unhide HX).frozen 4 rfl
  have x5 := (unhide HX).cell 5 rfl
  have x5f := (unhide HX).frozen 5 rfl
  have y0 := (unhide HY).cell 0 rfl
  have y1 := (unhide HY).cell 1 rfl
  have y2 := (unhide HY).cell 2 rfl
  have y3 := (unhide HY).cell 3 rfl
  have y4 := (unhide HY).cell 4 rfl
  have y5 := (unhide HY).cell 5 rfl
  refine hK.out _ _ (fun hPh => ?_)
  clear hK K hHeld
  try simp only [Act.put, List.setIfInBounds_toArray, List.set_cons_zero, List.set_cons_succ]
  (try simp only [List.setIfInBounds_toArray, List.set_cons_zero, List.set_cons_succ] at hPh)
  (try clear x0 x0f x1 x1f x2 x2f x3 x3f x4 x4f x5 x5f y0 y1 y2 y3 y4 y5)
  refine tkA 11 (some 13) (v := ?_) ?_ ?_
  rotate_left
  · intro w hSw
    first | (go_simp; done) | (go_simp; with_reducible rfl) | with_reducible rfl | rfl
  try simp only [Act.put, List.setIfInBounds_toArray, List.set_cons_zero, List.set_cons_succ]
  have x0 := (unhide HX).cell 0 rfl
  have x0f := (unhide HX).frozen 0 rfl
  have x1 := (unhide HX).cell 1 rfl
  have x1f := (unhide HX).frozen 1 rfl
  have x2 := (unhide HX).cell 2 rfl
  have x2f := (unhide HX).frozen 2 rfl
  have x3 := (unhide HX).cell 3 rfl
  have x3f := (unhide HX).frozen 3 rfl
  have x4 := (unhide HX).cell 4 rfl
  have x4f := (unhide HX).frozen 4 rfl
  have x5 := (unhide HX).cell 5 rfl
  have x5f := (unhide HX).frozen 5 rfl
  have y0 := (unhide HY).cell 0 rfl
  have y1 := (unhide HY).cell 1 rfl
  have y2 := (unhide HY).cell 2 rfl
  have y3 := (unhide HY).cell 3 rfl
  have y4 := (unhide HY).cell 4 rfl
  have y5 := (unhide HY).cell 5 rfl
  refine storeL 12 (o := { dst := none, op := _, type := _, pos := _, after := _, guard := _ }) (fun K hK => ?_)
  go_simp
  (try clear x0 x0f x1 x1f x2 x2f x3 x3f x4 x4f x5 x5f y0 y1 y2 y3 y4 y5)
  replace HX := hide (box_put (unhide HX) 1 (.slice b1 pu.length j1) (by simp))
  replace HY := hide ((unhide HY).oth (g' := w.heap.size) (i := 1) (.slice b1 pu.length j1) (by omega))
  replace HOL := hide ((unhide HOL).kg (grown_cel _ (w.heap.size) 1 (.slice b1 pu.length j1)) (by omega))
  replace HB := hide (below_sc (p := ⟨w.heap.size, 1, none⟩) (v := .slice b1 pu.length j1) (unhide HB) (by dsimp only; omega))
  replace HX := hide (show Box _ (w.heap.size) [.slice b0 es.length j0, .slice b1 pu.length j1, .slice a2 ds.length k2, .int .i64 cl, .slice a4 nu.length k4, .slice a5 sa.length k5] from unhide HX)
  have x0 := (unhide HX).cell 0 rfl
  have x0f := (unhide HX).frozen 0 rfl
  have x1 := (unhide HX).cell 1 rfl
  have x1f := (unhide HX).frozen 1 rfl
  have x2 := (unhide HX).cell 2 rfl
  have x2f := (unhide HX).frozen 2 rfl
  have x3 := (unhide HX).cell 3 rfl
  have x3f := (unhide HX).frozen 3 rfl
  have x4 := (unhide HX).cell 4 rfl
  have x4f := (unhide HX).frozen 4 rfl
  have x5 := (unhide HX).cell 5 rfl
  have x5f := (unhide HX).frozen 5 rfl
  have y0 := (unhide HY).cell 0 rfl
  have y1 := (unhide HY).cell 1 rfl
  have y2 := (unhide HY).cell 2 rfl
  have y3 := (unhide HY).cell 3 rfl
  have y4 := (unhide HY).cell 4 rfl
  have y5 := (unhide HY).cell 5 rfl
  refine hK.out _ _ (fun hPh => ?_)
  clear hK K
  try simp only [Act.put, List.setIfInBounds_toArray, List.set_cons_zero, List.set_cons_succ]
  (try simp only [List.setIfInBounds_toArray, List.set_cons_zero, List.set_cons_succ] at hPh)
  (try clear x0 x0f x1 x1f x2 x2f x3 x3f x4 x4f x5 x5f y0 y1 y2 y3 y4 y5)
  refine tkA 13 (some 14) (v := ?_) ?_ ?_
  rotate_left
  · intro w hSw
    first | (go_simp; done) | (go_simp; with_reducible rfl) | with_reducible rfl | rfl
  try simp only [Act.put, List.setIfInBounds_toArray, List.set_cons_zero, List.set_cons_succ]
  have x0 := (unhide HX).cell 0 rfl
  have x0f := (unhide HX).frozen 0 rfl
  have x1 := (unhide HX).cell 1 rfl
  have x1f := (unhide HX).frozen 1 rfl
  have x2 := (unhide HX).cell 2 rfl
  have x2f := (unhide HX).frozen 2 rfl
  have x3 := (unhide HX).cell 3 rfl
  have x3f := (unhide HX).frozen 3 rfl
  have x4 := (unhide HX).cell 4 rfl
  have x4f := (unhide HX).frozen 4 rfl
  have x5 := (unhide HX).cell 5 rfl
  have x5f := (unhide HX).frozen 5 rfl
  have y0 := (unhide HY).cell 0 rfl
  have y1 := (unhide HY).cell 1 rfl
  have y2 := (unhide HY).cell 2 rfl
  have y3 := (unhide HY).cell 3 rfl
  have y4 := (unhide HY).cell 4 rfl
  have y5 := (unhide HY).cell 5 rfl
  refine storeL 14 (o := { dst := none, op := _, type := _, pos := _, after := _, guard := _ }) (fun K hK => ?_)
  go_simp
  (try clear x0 x0f x1 x1f x2 x2f x3 x3f x4 x4f x5 x5f y0 y1 y2 y3 y4 y5)
  replace HX := hide (box_put (unhide HX) 2 (.slice b2 ds.length j2) (by simp))
  replace HY := hide ((unhide HY).oth (g' := w.heap.size) (i := 2) (.slice b2 ds.length j2) (by omega))
  replace HOL := hide ((unhide HOL).kg (grown_cel _ (w.heap.size) 2 (.slice b2 ds.length j2)) (by omega))
  replace HB := hide (below_sc (p := ⟨w.heap.size, 2, none⟩) (v := .slice b2 ds.length j2) (unhide HB) (by dsimp only; omega))
  replace HX := hide (show Box _ (w.heap.size) [.slice b0 es.length j0, .slice b1 pu.length j1, .slice b2 ds.length j2, .int .i64 cl, .slice a4 nu.length k4, .slice a5 sa.length k5] from unhide HX)
  have x0 := (unhide HX).cell 0 rfl
  have x0f := (unhide HX).frozen 0 rfl
  have x1 := (unhide HX).cell 1 rfl
  have x1f := (unhide HX).frozen 1 rfl
  have x2 := (unhide HX).cell 2 rfl
  have x2f := (unhide HX).frozen 2 rfl
  have x3 := (unhide HX).cell 3 rfl
  have x3f := (unhide HX).frozen 3 rfl
  have x4 := (unhide HX).cell 4 rfl
  have x4f := (unhide HX).frozen 4 rfl
  have x5 := (unhide HX).cell 5 rfl
  have x5f := (unhide HX).frozen 5 rfl
  have y0 := (unhide HY).cell 0 rfl
  have y1 := (unhide HY).cell 1 rfl
  have y2 := (unhide HY).cell 2 rfl
  have y3 := (unhide HY).cell 3 rfl
  have y4 := (unhide HY).cell 4 rfl
  have y5 := (unhide HY).cell 5 rfl
  refine hK.out _ _ (fun hPh => ?_)
  clear hK K
  try simp only [Act.put, List.setIfInBounds_toArray, List.set_cons_zero, List.set_cons_succ]
  (try simp only [List.setIfInBounds_toArray, List.set_cons_zero, List.set_cons_succ] at hPh)
  (try clear x0 x0f x1 x1f x2 x2f x3 x3f x4 x4f x5 x5f y0 y1 y2 y3 y4 y5)
  clear hPh
  refine doneL (by kernel_rfl) ?_ _
  have x0 := (unhide HX).cell 0 rfl
  have x1 := (unhide HX).cell 1 rfl
  have x2 := (unhide HX).cell 2 rfl
  have x3 := (unhide HX).cell 3 rfl
  have x4 := (unhide HX).cell 4 rfl
  have x5 := (unhide HX).cell 5 rfl
  have y0 := (unhide HY).cell 0 rfl
  have y1 := (unhide HY).cell 1 rfl
  have y2 := (unhide HY).cell 2 rfl
  have y3 := (unhide HY).cell 3 rfl
  have y4 := (unhide HY).cell 4 rfl
  have y5 := (unhide HY).cell 5 rfl
  go_wp2_with fail
  (try clear x0 x1 x2 x3 x4 x5 y0 y1 y2 y3 y4 y5)
  have hws2 : W.heap.size ≤ ((((V3).setCell ⟨w.heap.size, 0, none⟩ (.slice b0 es.length j0)).setCell ⟨w.heap.size, 1, none⟩ (.slice b1 pu.length j1)).setCell ⟨w.heap.size, 2, none⟩ (.slice b2 ds.length j2)).heap.size := by simp only [World.size_setCell]; exact unhide HWS
  generalize (((V3).setCell ⟨w.heap.size, 0, none⟩ (.slice b0 es.length j0)).setCell ⟨w.heap.size, 1, none⟩ (.slice b1 pu.length j1)).setCell ⟨w.heap.size, 2, none⟩ (.slice b2 ds.length j2) = W2 at *
  (try clear x0 x1 x2 x3 x4 x5 y0 y0f y1 y1f y2 y2f y3 y3f y4 y4f y5 y5f)
  refine wp_region_L (fun w' => Box w' (w.heap.size) [.slice b0 es.length j0, .slice b1 pu.length j1, .slice b2 ds.length j2, .int .i64 cl, .slice a4 nu.length k4, .slice a5 sa.length k5]) [7, 9] (by kernel_rfl) ((unhide HX).bel (below_drew W2)) (fun hHeld => ?_)
  refine tkL 0 (some 15) (v := ?_) ?_ ?_
  rotate_left
  · intro w hSw
    first | (go_simp; done) | (go_simp; with_reducible rfl) | with_reducible rfl | rfl
  try simp only [Act.put, List.setIfInBounds_toArray, List.set_cons_zero, List.set_cons_succ]
  refine tkL 1 (some 16) (v := ?_) ?_ ?_
  rotate_left
  · intro w hSw
    have x0 := hSw.cell 0 rfl; have x1 := hSw.cell 1 rfl; have x2 := hSw.cell 2 rfl; have x3 := hSw.cell 3 rfl; have x4 := hSw.cell 4 rfl; have x5 := hSw.cell 5 rfl
    first | (go_simp; done) | (go_simp; with_reducible rfl) | with_reducible rfl | rfl
  try simp only [Act.put, List.setIfInBounds_toArray, List.set_cons_zero, List.set_cons_succ]
  refine tkL 3 (some 18) (v := ?_) ?_ ?_
  rotate_left
  · intro w hSw
    first | (go_simp; done) | (go_simp; with_reducible rfl) | with_reducible rfl | rfl
  try simp only [Act.put, List.setIfInBounds_toArray, List.set_cons_zero, List.set_cons_succ]
  refine tkL 4 (some 19) (v := ?_) ?_ ?_
  rotate_left
  · intro w hSw
    have x0 := hSw.cell 0 rfl; have x1 := hSw.cell 1 rfl; have x2 := hSw.cell 2 rfl; have x3 := hSw.cell 3 rfl; have x4 := hSw.cell 4 rfl; have x5 := hSw.cell 5 rfl
    first | (go_simp; done) | (go_simp; with_reducible rfl) | with_reducible rfl | rfl
  try simp only [Act.put, List.setIfInBounds_toArray, List.set_cons_zero, List.set_cons_succ]
  have HD := below_drew W2
  generalize W2.drew = V0 at *
  have hL := (unhide HOL).bel HD
  clear HOL
  refine callL 2 (o := { dst := some 17, op := _, type := _, pos := _, after := _, guard := _ }) (fun K hK => ?_)
  go_simp
  go_at_call 106
  refine (c106 nu a4 nu.length k4 _ rfl (unhide HSM).2.2.2.1 (unhide HZ4) ((unhide HRR).bel (below_tr (unhide HB) HD)).2.2.2.1).mono ?_
  rintro e V1 ⟨v, rfl, ho, hb⟩
  obtain ⟨b4, j4, rfl⟩ := live_form ho.2
  replace hL := live_new (A := [(134, 4, .slice b0 es.length j0, es.length, (es.flatMap eCells)), (3, 1, .slice b1 pu.length j1, pu.length, (pu.map (Value.int .i64))), (42, 5, .slice b2 ds.length j2, ds.length, (ds.flatMap dCells))]) (C := []) (T := 3) (n := 1) (m := nu.length) (cs := (nu.map (Value.int .i64))) (by simpa only [List.append_nil] using hL) hb (owns_mono ho.2 (Nat.le_trans hws2 HD.size)) (fun k hk => (ho.2.lt k hk).1)
  simp only [List.cons_append, List.nil_append] at hL
  clear ho
  replace HD := below_then HD hb
  clear hb
  try go_wp2_with fail
  refine hK.out _ _ ((unhide HX).bel HD) (fun hHeld => ?_)
  clear hK K
  try simp only [Act.put, List.setIfInBounds_toArray, List.set_cons_zero, List.set_cons_succ]
  refine tkL 6 (some 21) (v := ?_) ?_ ?_
  rotate_left
  · intro w hSw
    first | (go_simp; done) | (go_simp; with_reducible rfl) | with_reducible rfl | rfl
  try simp only [Act.put, List.setIfInBounds_toArray, List.set_cons_zero, List.set_cons_succ]
  refine callL 5 (o := { dst := some 20, op := _, type := _, pos := _, after := _, guard := _ }) (fun K hK => ?_)
  go_simp
  go_at_call 106
  refine (c106 sa a5 sa.length k5 _ rfl (unhide HSM).2.2.2.2 (unhide HZ5) ((unhide HRR).bel (below_tr (unhide HB) HD)).2.2.2.2).mono ?_
  rintro e V2 ⟨v, rfl, ho, hb⟩
  obtain ⟨b5, j5, rfl⟩ := live_form ho.2
  replace hL := live_new (A := [(134, 4, .slice b0 es.length j0, es.length, (es.flatMap eCells)), (3, 1, .slice b1 pu.length j1, pu.length, (pu.map (Value.int .i64))), (42, 5, .slice b2 ds.length j2, ds.length, (ds.flatMap dCells)), (3, 1, .slice b4 nu.length j4, nu.length, (nu.map (Value.int .i64)))]) (C := []) (T := 3) (n := 1) (m := sa.length) (cs := (sa.map (Value.int .i64))) (by simpa only [List.append_nil] using hL) hb (owns_mono ho.2 (Nat.le_trans hws2 HD.size)) (fun k hk => (ho.2.lt k hk).1)
  simp only [List.cons_append, List.nil_append] at hL
  clear ho
  replace HD := below_then HD hb
  clear hb
  try go_wp2_with fail
  refine hK.out _ _ ((unhide HX).bel HD) (fun hHeld => ?_)
  clear hK K
  try simp only [Act.put, List.setIfInBounds_toArray, List.set_cons_zero, List.set_cons_succ]
  replace HB := hide (below_tr (unhide HB) HD)
  replace HX := hide ((unhide HX).bel HD)
  replace HY := hide ((unhide HY).bel HD)
  clear HD 
  have HOL := hide hL
  clear hL
  have x0 := (unhide HX).cell 0 rfl
  have x0f := (unhide HX).frozen 0 rfl
  have x1 := (unhide HX).cell 1 rfl
  have x1f := (unhide HX).frozen 1 rfl
  have x2 := (unhide HX).cell 2 rfl
  have x2f := (unhide HX).frozen 2 rfl
  have x3 := (unhide HX).cell 3 rfl
  have x3f := (unhide HX).frozen 3 rfl
  have x4 := (unhide HX).cell 4 rfl
  have x4f := (unhide HX).frozen 4 rfl
  have x5 := (unhide HX).cell 5 rfl
  have x5f := (unhide HX).frozen 5 rfl
  have y0 := (unhide HY).cell 0 rfl
  have y0f := (unhide HY).frozen 0 rfl
  have y1 := (unhide HY).cell 1 rfl
  have y1f := (unhide HY).frozen 1 rfl
  have y2 := (unhide HY).cell 2 rfl
  have y2f := (unhide HY).frozen 2 rfl
  have y3 := (unhide HY).cell 3 rfl
  have y3f := (unhide HY).frozen 3 rfl
  have y4 := (unhide HY).cell 4 rfl
  have y4f := (unhide HY).frozen 4 rfl
  have y5 := (unhide HY).cell 5 rfl
  have y5f := (unhide HY).frozen 5 rfl
  refine storeL 7 (o := { dst := none, op := _, type := _, pos := _, after := _, guard := _ }) (fun K hK => ?_)
  go_simp
  (try clear x0 x0f x1 x1f x2 x2f x3 x3f x4 x4f x5 x5f y0 y0f y1 y1f y2 y2f y3 y3f y4 y4f y5 y5f)
  replace HX := hide (box_put (unhide HX) 4 (.slice b4 nu.length j4) (by simp))
  replace HY := hide ((unhide HY).oth (g' := w.heap.size) (i := 4) (.slice b4 nu.length j4) (by omega))
  replace HOL := hide ((unhide HOL).kg (grown_cel _ (w.heap.size) 4 (.slice b4 nu.length j4)) (by omega))
  replace HB := hide (below_sc (p := ⟨w.heap.size, 4, none⟩) (v := .slice b4 nu.length j4) (unhide HB) (by dsimp only; omega))
  replace HX := hide (show Box _ (w.heap.size) [.slice b0 es.length j0, .slice b1 pu.length j1, .slice b2 ds.length j2, .int .i64 cl, .slice b4 nu.length j4, .slice a5 sa.length k5] from unhide HX)
  have x0 := (unhide HX).cell 0 rfl
  have x0f := (unhide HX).frozen 0 rfl
  have x1 := (unhide HX).cell 1 rfl
  have x1f := (unhide HX).frozen 1 rfl
  have x2 := (unhide HX).cell 2 rfl
  have x2f := (unhide HX).frozen 2 rfl
  have x3 := (unhide HX).cell 3 rfl
  have x3f := (unhide HX).frozen 3 rfl
  have x4 := (unhide HX).cell 4 rfl
  have x4f := (unhide HX).frozen 4 rfl
  have x5 := (unhide HX).cell 5 rfl
  have x5f := (unhide HX).frozen 5 rfl
  have y0 := (unhide HY).cell 0 rfl
  have y0f := (unhide HY).frozen 0 rfl
  have y1 := (unhide HY).cell 1 rfl
  have y1f := (unhide HY).frozen 1 rfl
  have y2 := (unhide HY).cell 2 rfl
  have y2f := (unhide HY).frozen 2 rfl
  have y3 := (unhide HY).cell 3 rfl
  have y3f := (unhide HY).frozen 3 rfl
  have y4 := (unhide HY).cell 4 rfl
  have y4f := (unhide HY).frozen 4 rfl
  have y5 := (unhide HY).cell 5 rfl
  have y5f := (unhide HY).frozen 5 rfl
  refine hK.out _ _ (fun hPh => ?_)
  clear hK K hHeld
  try simp only [Act.put, List.setIfInBounds_toArray, List.set_cons_zero, List.set_cons_succ]
  (try simp only [List.setIfInBounds_toArray, List.set_cons_zero, List.set_cons_succ] at hPh)
  (try clear x0 x0f x1 x1f x2 x2f x3 x3f x4 x4f x5 x5f y0 y0f y1 y1f y2 y2f y3 y3f y4 y4f y5 y5f)
  refine tkA 8 (some 22) (v := ?_) ?_ ?_
  rotate_left
  · intro w hSw
    first | (go_simp; done) | (go_simp; with_reducible rfl) | with_reducible rfl | rfl
  try simp only [Act.put, List.setIfInBounds_toArray, List.set_cons_zero, List.set_cons_succ]
  have x0 := (unhide HX).cell 0 rfl
  have x0f := (unhide HX).frozen 0 rfl
  have x1 := (unhide HX).cell 1 rfl
  have x1f := (unhide HX).frozen 1 rfl
  have x2 := (unhide HX).cell 2 rfl
  have x2f := (unhide HX).frozen 2 rfl
  have x3 := (unhide HX).cell 3 rfl
  have x3f := (unhide HX).frozen 3 rfl
  have x4 := (unhide HX).cell 4 rfl
  have x4f := (unhide HX).frozen 4 rfl
  have x5 := (unhide HX).cell 5 rfl
  have x5f := (unhide HX).frozen 5 rfl
  have y0 := (unhide HY).cell 0 rfl
  have y0f := (unhide HY).frozen 0 rfl
  have y1 := (unhide HY).cell 1 rfl
  have y1f := (unhide HY).frozen 1 rfl
  have y2 := (unhide HY).cell 2 rfl
  have y2f := (unhide HY).frozen 2 rfl
  have y3 := (unhide HY).cell 3 rfl
  have y3f := (unhide HY).frozen 3 rfl
  have y4 := (unhide HY).cell 4 rfl
  have y4f := (unhide HY).frozen 4 rfl
  have y5 := (unhide HY).cell 5 rfl
  have y5f := (unhide HY).frozen 5 rfl
  refine storeL 9 (o := { dst := none, op := _, type := _, pos := _, after := _, guard := _ }) (fun K hK => ?_)
  go_simp
  (try clear x0 x0f x1 x1f x2 x2f x3 x3f x4 x4f x5 x5f y0 y0f y1 y1f y2 y2f y3 y3f y4 y4f y5 y5f)
  replace HX := hide (box_put (unhide HX) 5 (.slice b5 sa.length j5) (by simp))
  replace HY := hide ((unhide HY).oth (g' := w.heap.size) (i := 5) (.slice b5 sa.length j5) (by omega))
  replace HOL := hide ((unhide HOL).kg (grown_cel _ (w.heap.size) 5 (.slice b5 sa.length j5)) (by omega))
  replace HB := hide (below_sc (p := ⟨w.heap.size, 5, none⟩) (v := .slice b5 sa.length j5) (unhide HB) (by dsimp only; omega))
  replace HX := hide (show Box _ (w.heap.size) [.slice b0 es.length j0, .slice b1 pu.length j1, .slice b2 ds.length j2, .int .i64 cl, .slice b4 nu.length j4, .slice b5 sa.length j5] from unhide HX)
  have x0 := (unhide HX).cell 0 rfl
  have x0f := (unhide HX).frozen 0 rfl
  have x1 := (unhide HX).cell 1 rfl
  have x1f := (unhide HX).frozen 1 rfl
  have x2 := (unhide HX).cell 2 rfl
  have x2f := (unhide HX).frozen 2 rfl
  have x3 := (unhide HX).cell 3 rfl
  have x3f := (unhide HX).frozen 3 rfl
  have x4 := (unhide HX).cell 4 rfl
  have x4f := (unhide HX).frozen 4 rfl
  have x5 := (unhide HX).cell 5 rfl
  have x5f := (unhide HX).frozen 5 rfl
  have y0 := (unhide HY).cell 0 rfl
  have y0f := (unhide HY).frozen 0 rfl
  have y1 := (unhide HY).cell 1 rfl
  have y1f := (unhide HY).frozen 1 rfl
  have y2 := (unhide HY).cell 2 rfl
  have y2f := (unhide HY).frozen 2 rfl
  have y3 := (unhide HY).cell 3 rfl
  have y3f := (unhide HY).frozen 3 rfl
  have y4 := (unhide HY).cell 4 rfl
  have y4f := (unhide HY).frozen 4 rfl
  have y5 := (unhide HY).cell 5 rfl
  have y5f := (unhide HY).frozen 5 rfl
  refine hK.out _ _ (fun hPh => ?_)
  clear hK K
  try simp only [Act.put, List.setIfInBounds_toArray, List.set_cons_zero, List.set_cons_succ]
  (try simp only [List.setIfInBounds_toArray, List.set_cons_zero, List.set_cons_succ] at hPh)
  (try clear x0 x0f x1 x1f x2 x2f x3 x3f x4 x4f x5 x5f y0 y0f y1 y1f y2 y2f y3 y3f y4 y4f y5 y5f)
  clear hPh
  refine doneL (by kernel_rfl) ?_ _
  have x0 := (unhide HX).cell 0 rfl
  have x1 := (unhide HX).cell 1 rfl
  have x2 := (unhide HX).cell 2 rfl
  have x3 := (unhide HX).cell 3 rfl
  have x4 := (unhide HX).cell 4 rfl
  have x5 := (unhide HX).cell 5 rfl
  have y0 := (unhide HY).cell 0 rfl
  have y0f := (unhide HY).frozen 0 rfl
  have y1 := (unhide HY).cell 1 rfl
  have y1f := (unhide HY).frozen 1 rfl
  have y2 := (unhide HY).cell 2 rfl
  have y2f := (unhide HY).frozen 2 rfl
  have y3 := (unhide HY).cell 3 rfl
  have y3f := (unhide HY).frozen 3 rfl
  have y4 := (unhide HY).cell 4 rfl
  have y4f := (unhide HY).frozen 4 rfl
  have y5 := (unhide HY).cell 5 rfl
  have y5f := (unhide HY).frozen 5 rfl
  go_wp2_with fail
  (try clear x0 x1 x2 x3 x4 x5 y0 y0f y1 y1f y2 y2f y3 y3f y4 y4f y5 y5f)
  (try clear x0 x1 x2 x3 x4 x5 y0 y0f y1 y1f y2 y2f y3 y3f y4 y4f y5 y5f)
  replace HX := hide ((unhide HX).oth (g' := w.heap.size + 1) (i := 0) (.slice b0 es.length j0) (by omega))
  replace HY := hide (box_put (unhide HY) 0 (.slice b0 es.length j0) (by simp))
  replace HOL := hide ((unhide HOL).kg (grown_cel _ (w.heap.size + 1) 0 (.slice b0 es.length j0)) (by omega))
  replace HB := hide (below_sc (p := ⟨w.heap.size + 1, 0, none⟩) (v := .slice b0 es.length j0) (unhide HB) (by dsimp only; omega))
  replace HX := hide ((unhide HX).oth (g' := w.heap.size + 1) (i := 1) (.slice b1 pu.length j1) (by omega))
  replace HY := hide (box_put (unhide HY) 1 (.slice b1 pu.length j1) (by simp))
  replace HOL := hide ((unhide HOL).kg (grown_cel _ (w.heap.size + 1) 1 (.slice b1 pu.length j1)) (by omega))
  replace HB := hide (below_sc (p := ⟨w.heap.size + 1, 1, none⟩) (v := .slice b1 pu.length j1) (unhide HB) (by dsimp only; omega))
  replace HX := hide ((unhide HX).oth (g' := w.heap.size + 1) (i := 2) (.slice b2 ds.length j2) (by omega))
  replace HY := hide (box_put (unhide HY) 2 (.slice b2 ds.length j2) (by simp))
  replace HOL := hide ((unhide HOL).kg (grown_cel _ (w.heap.size + 1) 2 (.slice b2 ds.length j2)) (by omega))
  replace HB := hide (below_sc (p := ⟨w.heap.size + 1, 2, none⟩) (v := .slice b2 ds.length j2) (unhide HB) (by dsimp only; omega))
  replace HX := hide ((unhide HX).oth (g' := w.heap.size + 1) (i := 3) (.int .i64 cl) (by omega))
  replace HY := hide (box_put (unhide HY) 3 (.int .i64 cl) (by simp))
  replace HOL := hide ((unhide HOL).kg (grown_cel _ (w.heap.size + 1) 3 (.int .i64 cl)) (by omega))
  replace HB := hide (below_sc (p := ⟨w.heap.size + 1, 3, none⟩) (v := .int .i64 cl) (unhide HB) (by dsimp only; omega))
  replace HX := hide ((unhide HX).oth (g' := w.heap.size + 1) (i := 4) (.slice b4 nu.length j4) (by omega))
  replace HY := hide (box_put (unhide HY) 4 (.slice b4 nu.length j4) (by simp))
  replace HOL := hide ((unhide HOL).kg (grown_cel _ (w.heap.size + 1) 4 (.slice b4 nu.length j4)) (by omega))
  replace HB := hide (below_sc (p := ⟨w.heap.size + 1, 4, none⟩) (v := .slice b4 nu.length j4) (unhide HB) (by dsimp only; omega))
  replace HX := hide ((unhide HX).oth (g' := w.heap.size + 1) (i := 5) (.slice b5 sa.length j5) (by omega))
  replace HY := hide (box_put (unhide HY) 5 (.slice b5 sa.length j5) (by simp))
  replace HOL := hide ((unhide HOL).kg (grown_cel _ (w.heap.size + 1) 5 (.slice b5 sa.length j5)) (by omega))
  replace HB := hide (below_sc (p := ⟨w.heap.size + 1, 5, none⟩) (v := .slice b5 sa.length j5) (unhide HB) (by dsimp only; omega))
  replace HY := hide (show Box _ (w.heap.size + 1) [.slice b0 es.length j0, .slice b1 pu.length j1, .slice b2 ds.length j2, .int .i64 cl, .slice b4 nu.length j4, .slice b5 sa.length j5] from unhide HY)
  have x0 := (unhide HX).cell 0 rfl
  have x1 := (unhide HX).cell 1 rfl
  have x2 := (unhide HX).cell 2 rfl
  have x3 := (unhide HX).cell 3 rfl
  have x4 := (unhide HX).cell 4 rfl
  have x5 := (unhide HX).cell 5 rfl
  have y0 := (unhide HY).cell 0 rfl
  have y1 := (unhide HY).cell 1 rfl
  have y2 := (unhide HY).cell 2 rfl
  have y3 := (unhide HY).cell 3 rfl
  have y4 := (unhide HY).cell 4 rfl
  have y5 := (unhide HY).cell 5 rfl
  obtain ⟨c0, l0, c1, l1, c2, l2, c4, l4, c5, l5, e0, e1, e2, e4, e5, ho⟩ := copies5 (es := es) (pu := pu) (ds := ds) (cl := cl) (nu := nu) (sa := sa) (unhide HRR) (unhide HOL)
  cases e0
  cases e1
  cases e2
  cases e4
  cases e5
  exact bodyPost_ret (v := hV ⟨b0, j0, b1, j1, b2, j2, b4, j4, b5, j5⟩ ⟨es, pu, ds, cl, nu, sa⟩) (results_c Try.results117 rfl (load_house (unhide HY))) rfl ⟨⟨b0, j0, b1, j1, b2, j2, b4, j4, b5, j5⟩, rfl, ho.lower (by omega), unhide HB⟩
end Go.Proofs.Ytmlbphmbffkdnaa
