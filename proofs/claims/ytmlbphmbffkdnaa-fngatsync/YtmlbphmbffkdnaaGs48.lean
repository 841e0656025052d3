/-
  Texts of the proof, what it needs of them: Gsz.
-/
import Derived.Test.YtmlbphmbffkdnaaGs47
namespace Go.Proofs.Ytmlbphmbffkdnaa
open Go.RowKit
set_option linter.unusedVariables false
set_option maxRecDepth 100000

set_option maxHeartbeats 4000000 in
theorem c140 (s l o : Int) (zs : List Int) (ao : Option Addr) (n cap : Nat) (w : World) (hn : zs.length = n) (hm : n ≤ 1048576) (hz : ao = none → cap = 0) (hr : Row w ao zs) : Calls Try.prog 140 #[gatV s l o (.slice ao n cap)] w (GTold w s l o zs) := by
  subst hn
  have HR := hide hr
  clear hr hz
  have HB := hide (Below.refl w.heap.size w)
  replace HB := hide (below_al (o := .cells #[.int .i64 s, .int .i64 l, .int .i64 o, .slice ao zs.length cap] 63) (unhide HB))
  replace HR := hide ((unhide HR).bel (below_a (.cells #[.int .i64 s, .int .i64 l, .int .i64 o, .slice ao zs.length cap] 63)))
  have HX := hide (box_new w [.int .i64 s, .int .i64 l, .int .i64 o, .slice ao zs.length cap] 63 (by simp [Value.oneCell']))
  (try simp only [World.size_alloc] at HX)
  replace HB := hide (below_al (o := .cells #[.int .i64 0, .int .i64 0, .int .i64 0, .slice none 0 0] 63) (unhide HB))
  replace HR := hide ((unhide HR).bel (below_a (.cells #[.int .i64 0, .int .i64 0, .int .i64 0, .slice none 0 0] 63)))
  replace HX := hide ((unhide HX).bel (below_a (.cells #[.int .i64 0, .int .i64 0, .int .i64 0, .slice none 0 0] 63)))
  have HY := hide (box_new (w.alloc (.cells #[.int .i64 s, .int .i64 l, .int .i64 o, .slice ao zs.length cap] 63)) [.int .i64 0, .int .i64 0, .int .i64 0, .slice none 0 0] 63 (by simp [Value.oneCell']))
  (try simp only [World.size_alloc] at HY)
  have x0 := (unhide HX).cell 0 rfl
  have x1 := (unhide HX).cell 1 rfl
  have x2 := (unhide HX).cell 2 rfl
  have x3 := (unhide HX).cell 3 rfl
  have y0 := (unhide HY).cell 0 rfl
  have y1 := (unhide HY).cell 1 rfl
  have y2 := (unhide HY).cell 2 rfl
  have y3 := (unhide HY).cell 3 rfl
  go_enter Try.func140, Try.ntmps140
  go_wp2_with fail
  (try clear x0 x1 x2 x3 y0 y1 y2 y3)
  have hbs : w.heap.size + 1 < ((w.alloc (.cells #[.int .i64 s, .int .i64 l, .int .i64 o, .slice ao zs.length cap] 63)).alloc (.cells #[.int .i64 0, .int .i64 0, .int .i64 0, .slice none 0 0] 63)).heap.size := by simp
  have HBS := hide hbs
  generalize (w.alloc (.cells #[.int .i64 s, .int .i64 l, .int .i64 o, .slice ao zs.length cap] 63)).alloc (.cells #[.int .i64 0, .int .i64 0, .int .i64 0, .slice none 0 0] 63) = W at *
  refine wp_region_W (fun w' => Box w' w.heap.size [.int .i64 s, .int .i64 l, .int .i64 o, .slice ao zs.length cap]) (by kernel_rfl) ((unhide HX).bel (below_drew W)) (fun hHeld => ?_)
  refine tkW 0 (some 3) (v := ?_) ?_ ?_
  rotate_left
  · intro w hSw
    first | (go_simp; done) | (go_simp; with_reducible rfl) | with_reducible rfl | rfl
  try simp only [Act.put, List.setIfInBounds_toArray, List.set_cons_zero, List.set_cons_succ]
  refine tkW 1 (some 4) (v := ?_) ?_ ?_
  rotate_left
  · intro w hSw
    have x0 := hSw.cell 0 rfl; have x1 := hSw.cell 1 rfl; have x2 := hSw.cell 2 rfl; have x3 := hSw.cell 3 rfl
    first | (go_simp; done) | (go_simp; with_reducible rfl) | with_reducible rfl | rfl
  try simp only [Act.put, List.setIfInBounds_toArray, List.set_cons_zero, List.set_cons_succ]
  refine tkW 3 (some 6) (v := ?_) ?_ ?_
  rotate_left
  · intro w hSw
    first | (go_simp; done) | (go_simp; with_reducible rfl) | with_reducible rfl | rfl
  try simp only [Act.put, List.setIfInBounds_toArray, List.set_cons_zero, List.set_cons_succ]
  refine tkW 4 (some 7) (v := ?_) ?_ ?_
  rotate_left
  · intro w hSw
    have x0 := hSw.cell 0 rfl; have x1 := hSw.cell 1 rfl; have x2 := hSw.cell 2 rfl; have x3 := hSw.cell 3 rfl
    first | (go_simp; done) | (go_simp; with_reducible rfl) | with_reducible rfl | rfl
  try simp only [Act.put, List.setIfInBounds_toArray, List.set_cons_zero, List.set_cons_succ]
  have HD := below_drew W
  generalize W.drew = V0 at *
  refine oneW 2 (o := { dst := some 5, op := _, type := _, pos := _, after := _, guard := _ }) (fun K hK => ?_)
  go_simp
  refine hK.out _ _ (hHeld.bel (below_a _)) (fun hS1 => ?_)
  clear hK K
  try simp only [Act.put, List.setIfInBounds_toArray, List.set_cons_zero, List.set_cons_succ]
  have ho := World.ownsRow_lit (base := W.heap.size) (e := 3) (size := 1) V0 #[] 0 HD.size (by decide) rfl
  replace HD := below_then HD (below_a (.cells #[] 3))
  generalize V0.alloc (.cells #[] 3) = V1 at *
  generalize (some (⟨V0.heap.size, 0, none⟩ : Addr)) = a1 at *
  refine oneW 5 (o := { dst := some 8, op := _, type := _, pos := _, after := _, guard := _ }) (fun K hK => ?_)
  refine step_copy (by rfl) _ _ 23 (by rfl) W.heap.size 3 1 8 elI (.slice a1 0 0) (by rfl) ho ao zs.length cap (zs.map (Value.int .i64)) (by rfl) (srcI ((unhide HR).bel HD)) (by unfold maxLen; omega) (by omega) HD.size ?_
  intro v' w2 ho2 hg hv
  have hb2 : Below W.heap.size W w2 := HD.grown hg HD.size (fun k hk => (ho.lt k hk).1)
  obtain ⟨b, j, rfl⟩ := live_form ho2
  refine hK.out _ _ ((unhide HX).bel hb2) (fun hS2 => ?_)
  clear hK K hg hv ho HD hS1
  try simp only [Act.put, List.setIfInBounds_toArray, List.set_cons_zero, List.set_cons_succ]
  refine tkW 6 (some 9) (v := ?_) ?_ ?_
  rotate_left
  · intro w hSw
    first | (go_simp; done) | (go_simp; with_reducible rfl) | with_reducible rfl | rfl
  try simp only [Act.put, List.setIfInBounds_toArray, List.set_cons_zero, List.set_cons_succ]
  replace HB := hide (below_tr (unhide HB) hb2)
  replace HX := hide ((unhide HX).bel hb2)
  replace HY := hide ((unhide HY).bel hb2)
  have HO : Hid (Own w2 W.heap.size (.slice b zs.length j) zs) := ⟨(unhide HR).1, ho2⟩
  clear hb2 ho2 hHeld
  have y0 := (unhide HY).cell 0 rfl
  have y0f := (unhide HY).frozen 0 rfl
  have y1 := (unhide HY).cell 1 rfl
  have y1f := (unhide HY).frozen 1 rfl
  have y2 := (unhide HY).cell 2 rfl
  have y2f := (unhide HY).frozen 2 rfl
  have y3 := (unhide HY).cell 3 rfl
  have y3f := (unhide HY).frozen 3 rfl
  refine oneW 7 (o := { dst := none, op := _, type := _, pos := _, after := _, guard := _ }) (fun K hK => ?_)
  go_simp
  (try clear y0 y0f y1 y1f y2 y2f y3 y3f)
  replace HX := hide ((unhide HX).oth (g' := w.heap.size + 1) (i := 0) (.int .i64 s) (by omega))
  replace HY := hide (box_put (unhide HY) 0 (.int .i64 s) (by simp))
  replace HO := hide ((unhide HO).kg (grown_cel _ (w.heap.size + 1) 0 (.int .i64 s)) (by omega))
  replace HB := hide (below_sc (p := ⟨w.heap.size + 1, 0, none⟩) (v := .int .i64 s) (unhide HB) (by dsimp only; omega))
  replace HX := hide ((unhide HX).oth (g' := w.heap.size + 1) (i := 1) (.int .i64 l) (by omega))
  replace HY := hide (box_put (unhide HY) 1 (.int .i64 l) (by simp))
  replace HO := hide ((unhide HO).kg (grown_cel _ (w.heap.size + 1) 1 (.int .i64 l)) (by omega))
  replace HB := hide (below_sc (p := ⟨w.heap.size + 1, 1, none⟩) (v := .int .i64 l) (unhide HB) (by dsimp only; omega))
  replace HX := hide ((unhide HX).oth (g' := w.heap.size + 1) (i := 2) (.int .i64 o) (by omega))
  replace HY := hide (box_put (unhide HY) 2 (.int .i64 o) (by simp))
  replace HO := hide ((unhide HO).kg (grown_cel _ (w.heap.size + 1) 2 (.int .i64 o)) (by omega))
  replace HB := hide (below_sc (p := ⟨w.heap.size + 1, 2, none⟩) (v := .int .i64 o) (unhide HB) (by dsimp only; omega))
  replace HX := hide ((unhide HX).oth (g' := w.heap.size + 1) (i := 3) (.slice b zs.length j) (by omega))
  replace HY := hide (box_put (unhide HY) 3 (.slice b zs.length j) (by simp))
  replace HO := hide ((unhide HO).kg (grown_cel _ (w.heap.size + 1) 3 (.slice b zs.length j)) (by omega))
  replace HB := hide (below_sc (p := ⟨w.heap.size + 1, 3, none⟩) (v := .slice b zs.length j) (unhide HB) (by dsimp only; omega))
  replace HY := hide (show Box _ (w.heap.size + 1) [.int .i64 s, .int .i64 l, .int .i64 o, .slice b zs.length j] from unhide HY)
  have y0 := (unhide HY).cell 0 rfl
  have y1 := (unhide HY).cell 1 rfl
  have y2 := (unhide HY).cell 2 rfl
  have y3 := (unhide HY).cell 3 rfl
  refine hK.out _ _ (unhide HX) (fun hS3 => ?_)
  clear hK K
  try simp only [Act.put, List.setIfInBounds_toArray, List.set_cons_zero, List.set_cons_succ]
  refine doneW ?_
  go_wp2_with fail
  exact bodyPost_ret (v := gatV s l o (.slice b zs.length j)) (results_c Try.results140 rfl (load_gat (unhide HY))) rfl ⟨_, rfl, (unhide HO).mono (by omega), unhide HB⟩
set_option maxHeartbeats 4000000 in
theorem c55 (s l o : Int) (zs : List Int) (ao : Option Addr) (n cap : Nat) (s2 l2 o2 : Int) (ps : List Int) (bo : Option Addr) (m cap' : Nat) (w : World) (hn : zs.length = n) (hm : n ≤ 1048576) (hz : ao = none → cap = 0) (hr : Row w ao zs)
    (hn2 : ps.length = m) (hc2 : m ≤ cap') (hm2 : m ≤ 1048576) (hr2 : Row w bo ps) : Calls Try.prog 55 #[gatV s l o (.slice ao n cap), hedV s2 l2 o2, .slice bo m cap'] w (GTold2 w (gsyncH s l o zs s2 l2 o2 ps) (gsyncD s l o zs) (gsyncOk s l o zs s2 l2 o2 ps)) := by
  subst hn
  have HR := hide hr
  have HP := hide hr2
  have HZ := hide hz
  have HN2 := hide hn2
  clear hr hr2 hz hn2
  have HB := hide (Below.refl w.heap.size w)
  replace HB := hide (below_al (o := .cells #[.int .i64 s, .int .i64 l, .int .i64 o, .slice ao zs.length cap] 63) (unhide HB))
  replace HR := hide ((unhide HR).bel (below_a (.cells #[.int .i64 s, .int .i64 l, .int .i64 o, .slice ao zs.length cap] 63)))
  replace HP := hide ((unhide HP).bel (below_a (.cells #[.int .i64 s, .int .i64 l, .int .i64 o, .slice ao zs.length cap] 63)))
  have HX := hide (box_new w [.int .i64 s, .int .i64 l, .int .i64 o, .slice ao zs.length cap] 63 (by simp [Value.oneCell']))
  (try simp only [World.size_alloc] at HX)
  replace HB := hide (below_al (o := .cells #[.int .i64 s2, .int .i64 l2, .int .i64 o2] 61) (unhide HB))
  replace HR := hide ((unhide HR).bel (below_a (.cells #[.int .i64 s2, .int .i64 l2, .int .i64 o2] 61)))
  replace HP := hide ((unhide HP).bel (below_a (.cells #[.int .i64 s2, .int .i64 l2, .int .i64 o2] 61)))
  replace HX := hide ((unhide HX).bel (below_a (.cells #[.int .i64 s2, .int .i64 l2, .int .i64 o2] 61)))
  have HH := hide (box_new (w.alloc (.cells #[.int .i64 s, .int .i64 l, .int .i64 o, .slice ao zs.length cap] 63)) [.int .i64 s2, .int .i64 l2, .int .i64 o2] 61 (by simp [Value.oneCell']))
  (try simp only [World.size_alloc] at HH)
  replace HB := hide (below_al (o := .cells #[.int .i64 0, .int .i64 0, .int .i64 0, .slice none 0 0] 63) (unhide HB))
  replace HR := hide ((unhide HR).bel (below_a (.cells #[.int .i64 0, .int .i64 0, .int .i64 0, .slice none 0 0] 63)))
  replace HP := hide ((unhide HP).bel (below_a (.cells #[.int .i64 0, .int .i64 0, .int .i64 0, .slice none 0 0] 63)))
  replace HX := hide ((unhide HX).bel (below_a (.cells #[.int .i64 0, .int .i64 0, .int .i64 0, .slice none 0 0] 63)))
  replace HH := hide ((unhide HH).bel (below_a (.cells #[.int .i64 0, .int .i64 0, .int .i64 0, .slice none 0 0] 63)))
  have HY := hide (box_new ((w.alloc (.cells #[.int .i64 s, .int .i64 l, .int .i64 o, .slice ao zs.length cap] 63)).alloc (.cells #[.int .i64 s2, .int .i64 l2, .int .i64 o2] 61)) [.int .i64 0, .int .i64 0, .int .i64 0, .slice none 0 0] 63 (by simp [Value.oneCell']))
  (try simp only [World.size_alloc] at HY)
  have x0 := (unhide HX).cell 0 rfl
  have x1 := (unhide HX).cell 1 rfl
  have x2 := (unhide HX).cell 2 rfl
  have x3 := (unhide HX).cell 3 rfl
  have z0 := (unhide HH).cell 0 rfl
  have z1 := (unhide HH).cell 1 rfl
  have z2 := (unhide HH).cell 2 rfl
  have y0 := (unhide HY).cell 0 rfl
  have y0f := (unhide HY).frozen 0 rfl
  have y1 := (unhide HY).cell 1 rfl
  have y1f := (unhide HY).frozen 1 rfl
  have y2 := (unhide HY).cell 2 rfl
  have y2f := (unhide HY).frozen 2 rfl
  have y3 := (unhide HY).cell 3 rfl
  have y3f := (unhide HY).frozen 3 rfl
  go_enter Try.func55, Try.ntmps55
  go_wp2_with fail
  rcases h1 : gatOk s l o zs with _ | _
  case false =>
    have hg := gs_no (s2 := s2) (l2 := l2) (o2 := o2) (ps := ps) h1
    refine (c58 s l o zs ao zs.length cap _ rfl (by omega) (unhide HR)).mono ?_
    rintro e w1 ⟨rfl, hb⟩
    rw [h1]
    (try clear x0 x1 x2 x3 z0 z1 z2 y0 y0f y1 y1f y2 y2f y3 y3f)
    replace HB := hide (below_tr (unhide HB) hb)
    replace HR := hide ((unhide HR).bel hb)
    replace HP := hide ((unhide HP).bel hb)
    replace HX := hide ((unhide HX).bel hb)
    replace HH := hide ((unhide HH).bel hb)
    replace HY := hide ((unhide HY).bel hb)
    clear hb
    have x0 := (unhide HX).cell 0 rfl
    have x1 := (unhide HX).cell 1 rfl
    have x2 := (unhide HX).cell 2 rfl
    have x3 := (unhide HX).cell 3 rfl
    have z0 := (unhide HH).cell 0 rfl
    have z1 := (unhide HH).cell 1 rfl
    have z2 := (unhide HH).cell 2 rfl
    have y0 := (unhide HY).cell 0 rfl
    have y0f := (unhide HY).frozen 0 rfl
    have y1 := (unhide HY).cell 1 rfl
    have y1f := (unhide HY).frozen 1 rfl
    have y2 := (unhide HY).cell 2 rfl
    have y2f := (unhide HY).frozen 2 rfl
    have y3 := (unhide HY).cell 3 rfl
    have y3f := (unhide HY).frozen 3 rfl
    go_wp2_with fail
    (try clear x0 x1 x2 x3 z0 z1 z2 y0 y0f y1 y1f y2 y2f y3 y3f)
    (try clear x0 x1 x2 x3 z0 z1 z2 y0 y0f y1 y1f y2 y2f y3 y3f)
    replace HX := hide ((unhide HX).oth (g' := w.heap.size + 2) (i := 0) (.int .i64 0) (by omega))
    replace HH := hide ((unhide HH).oth (g' := w.heap.size + 2) (i := 0) (.int .i64 0) (by omega))
    replace HY := hide (box_put (unhide HY) 0 (.int .i64 0) (by simp))
    replace HB := hide (below_sc (p := ⟨w.heap.size + 2, 0, none⟩) (v := .int .i64 0) (unhide HB) (by dsimp only; omega))
    replace HX := hide ((unhide HX).oth (g' := w.heap.size + 2) (i := 1) (.int .i64 0) (by omega))
    replace HH := hide ((unhide HH).oth (g' := w.heap.size + 2) (i := 1) (.int .i64 0) (by omega))
    replace HY := hide (box_put (unhide HY) 1 (.int .i64 0) (by simp))
    replace HB := hide (below_sc (p := ⟨w.heap.size + 2, 1, none⟩) (v := .int .i64 0) (unhide HB) (by dsimp only; omega))
    replace HX := hide ((unhide HX).oth (g' := w.heap.size + 2) (i := 2) (.int .i64 0) (by omega))
    replace HH := hide ((unhide HH).oth (g' := w.heap.size + 2) (i := 2) (.int .i64 0) (by omega))
    replace HY := hide (box_put (unhide HY) 2 (.int .i64 0) (by simp))
    replace HB := hide (below_sc (p := ⟨w.heap.size + 2, 2, none⟩) (v := .int .i64 0) (unhide HB) (by dsimp only; omega))
    replace HX := hide ((unhide HX).oth (g' := w.heap.size + 2) (i := 3) (.slice none 0 0) (by omega))
    replace HH := hide ((unhide HH).oth (g' := w.heap.size + 2) (i := 3) (.slice none 0 0) (by omega))
    replace HY := hide (box_put (unhide HY) 3 (.slice none 0 0) (by simp))
    replace HB := hide (below_sc (p := ⟨w.heap.size + 2, 3, none⟩) (v := .slice none 0 0) (unhide HB) (by dsimp only; omega))
    replace HY := hide (show Box _ (w.heap.size + 2) [.int .i64 0, .int .i64 0, .int .i64 0, .slice none 0 0] from unhide HY)
    have x0 := (unhide HX).cell 0 rfl
    have x1 := (unhide HX).cell 1 rfl
    have x2 := (unhide HX).cell 2 rfl
    have x3 := (unhide HX).cell 3 rfl
    have z0 := (unhide HH).cell 0 rfl
    have z1 := (unhide HH).cell 1 rfl
    have z2 := (unhide HH).cell 2 rfl
    have y0 := (unhide HY).cell 0 rfl
    have y1 := (unhide HY).cell 1 rfl
    have y2 := (unhide HY).cell 2 rfl
    have y3 := (unhide HY).cell 3 rfl
    exact bodyPost_ret (v := .tuple #[.agg #[.int .i64 0, .int .i64 0, .int .i64 0, .slice none 0 0], .bool false]) (results_ct Try.results55 rfl (load_gat (unhide HY))) rfl (by rw [hg.1, hg.2.1, hg.2.2]; exact ⟨_, rfl, own_none _ _ (unhide HB).size, unhide HB⟩)
  refine (c58 s l o zs ao zs.length cap _ rfl (by omega) (unhide HR)).mono ?_
  rintro e w1 ⟨rfl, hb⟩
  rw [h1]
  (try clear x0 x1 x2 x3 z0 z1 z2 y0 y0f y1 y1f y2 y2f y3 y3f)
  replace HB := hide (below_tr (unhide HB) hb)
  replace HR := hide ((unhide HR).bel hb)
  replace HP := hide ((unhide HP).bel hb)
  replace HX := hide ((unhide HX).bel hb)
  replace HH := hide ((unhide HH).bel hb)
  replace HY := hide ((unhide HY).bel hb)
  clear hb
  have x0 := (unhide HX).cell 0 rfl
  have x1 := (unhide HX).cell 1 rfl
  have x2 := (unhide HX).cell 2 rfl
  have x3 := (unhide HX).cell 3 rfl
  have z0 := (unhide HH).cell 0 rfl
  have z1 := (unhide HH).cell 1 rfl
  have z2 := (unhide HH).cell 2 rfl
  have y0 := (unhide HY).cell 0 rfl
  have y0f := (unhide HY).frozen 0 rfl
  have y1 := (unhide HY).cell 1 rfl
  have y1f := (unhide HY).frozen 1 rfl
  have y2 := (unhide HY).cell 2 rfl
  have y2f := (unhide HY).frozen 2 rfl
  have y3 := (unhide HY).cell 3 rfl
  have y3f := (unhide HY).frozen 3 rfl
  go_wp2_with fail
  refine (c139 s l o zs ao zs.length cap _ rfl hm (unhide HZ) (unhide HR)).mono ?_
  rintro e w2 ⟨v, rfl, ho, hb⟩
  obtain ⟨b, j, rfl⟩ := live_form ho.2
  have hob : ∀ q, (Value.slice b zs.length j).ownBlock = some q → q < w2.heap.size := fun q hq => (ho.2.lt q hq).2
  have hgy1 := (unhide HY).lt
  have hgy2 := Nat.lt_of_lt_of_le hgy1 hb.size
  (try clear x0 x1 x2 x3 z0 z1 z2 y0 y0f y1 y1f y2 y2f y3 y3f)
  replace HB := hide (below_tr (unhide HB) hb)
  replace HR := hide ((unhide HR).bel hb)
  replace HP := hide ((unhide HP).bel hb)
  replace HX := hide ((unhide HX).bel hb)
  replace HH := hide ((unhide HH).bel hb)
  replace HY := hide ((unhide HY).bel hb)
  have HO := hide (ho)
  clear hb ho
  have x0 := (unhide HX).cell 0 rfl
  have x1 := (unhide HX).cell 1 rfl
  have x2 := (unhide HX).cell 2 rfl
  have x3 := (unhide HX).cell 3 rfl
  have z0 := (unhide HH).cell 0 rfl
  have z1 := (unhide HH).cell 1 rfl
  have z2 := (unhide HH).cell 2 rfl
  have y0 := (unhide HY).cell 0 rfl
  have y0f := (unhide HY).frozen 0 rfl
  have y1 := (unhide HY).cell 1 rfl
  have y1f := (unhide HY).frozen 1 rfl
  have y2 := (unhide HY).cell 2 rfl
  have y2f := (unhide HY).frozen 2 rfl
  have y3 := (unhide HY).cell 3 rfl
  have y3f := (unhide HY).frozen 3 rfl
  (try clear x0 x1 x2 x3 z0 z1 z2 y0 y0f y1 y1f y2 y2f y3 y3f)
  replace HB := hide (below_al (o := .cells #[.int .i64 s, .int .i64 l, .int .i64 o, .slice b zs.length j] 63) (unhide HB))
  replace HR := hide ((unhide HR).bel (below_a (.cells #[.int .i64 s, .int .i64 l, .int .i64 o, .slice b zs.length j] 63)))
  replace HP := hide ((unhide HP).bel (below_a (.cells #[.int .i64 s, .int .i64 l, .int .i64 o, .slice b zs.length j] 63)))
  replace HX := hide ((unhide HX).bel (below_a (.cells #[.int .i64 s, .int .i64 l, .int .i64 o, .slice b zs.length j] 63)))
  replace HH := hide ((unhide HH).bel (below_a (.cells #[.int .i64 s, .int .i64 l, .int .i64 o, .slice b zs.length j] 63)))
  replace HY := hide ((unhide HY).bel (below_a (.cells #[.int .i64 s, .int .i64 l, .int .i64 o, .slice b zs.length j] 63)))
  replace HO := hide ((unhide HO).bel (below_a (.cells #[.int .i64 s, .int .i64 l, .int .i64 o, .slice b zs.length j] 63)))
  have HZ4 := hide (box_new w2 [.int .i64 s, .int .i64 l, .int .i64 o, .slice b zs.length j] 63 (by simp [Value.oneCell']))
  have x0 := (unhide HX).cell 0 rfl
  have x1 := (unhide HX).cell 1 rfl
  have x2 := (unhide HX).cell 2 rfl
  have x3 := (unhide HX).cell 3 rfl
  have z0 := (unhide HH).cell 0 rfl
  have z1 := (unhide HH).cell 1 rfl
  have z2 := (unhide HH).cell 2 rfl
  have y0 := (unhide HY).cell 0 rfl
  have y0f := (unhide HY).frozen 0 rfl
  have y1 := (unhide HY).cell 1 rfl
  have y1f := (unhide HY).frozen 1 rfl
  have y2 := (unhide HY).cell 2 rfl
  have y2f := (unhide HY).frozen 2 rfl
  have y3 := (unhide HY).cell 3 rfl
  have y3f := (unhide HY).frozen 3 rfl
  have q0 := (unhide HZ4).cell 0 rfl
  have q1 := (unhide HZ4).cell 1 rfl
  have q2 := (unhide HZ4).cell 2 rfl
  have q3 := (unhide HZ4).cell 3 rfl
  have hgz := (unhide HY).lt
  (try clear q0 q1 q2 q3)
  have q0 := (unhide HZ4).cell 0 rfl
  have q0f := (unhide HZ4).frozen 0 rfl
  have q1 := (unhide HZ4).cell 1 rfl
  have q1f := (unhide HZ4).frozen 1 rfl
  have q2 := (unhide HZ4).cell 2 rfl
  have q2f := (unhide HZ4).frozen 2 rfl
  have q3 := (unhide HZ4).cell 3 rfl
  have q3f := (unhide HZ4).frozen 3 rfl
  go_wp2_with fail
  rcases h2 : hedFollows s l o s2 l2 o2 ps with _ | _
  case false =>
    have hg := gs_stay h1 h2
    refine (c60 s l o s2 l2 o2 ps bo m cap' _ (unhide HN2) hc2 hm2 (unhide HP)).mono ?_
    rintro e w3 ⟨rfl, hb⟩
    rw [h2]
    (try clear x0 x1 x2 x3 z0 z1 z2 y0 y0f y1 y1f y2 y2f y3 y3f q0 q0f q1 q1f q2 q2f q3 q3f)
    replace HB := hide (below_tr (unhide HB) hb)
    replace HR := hide ((unhide HR).bel hb)
    replace HP := hide ((unhide HP).bel hb)
    replace HX := hide ((unhide HX).bel hb)
    replace HH := hide ((unhide HH).bel hb)
    replace HY := hide ((unhide HY).bel hb)
    replace HO := hide ((unhide HO).bel hb)
    replace HZ4 := hide ((unhide HZ4).bel hb)
    clear hb
    have x0 := (unhide HX).cell 0 rfl
    have x1 := (unhide HX).cell 1 rfl
    have x2 := (unhide HX).cell 2 rfl
    have x3 := (unhide HX).cell 3 rfl
    have z0 := (unhide HH).cell 0 rfl
    have z1 := (unhide HH).cell 1 rfl
    have z2 := (unhide HH).cell 2 rfl
    have y0 := (unhide HY).cell 0 rfl
    have y0f := (unhide HY).frozen 0 rfl
    have y1 := (unhide HY).cell 1 rfl
    have y1f := (unhide HY).frozen 1 rfl
    have y2 := (unhide HY).cell 2 rfl
    have y2f := (unhide HY).frozen 2 rfl
    have y3 := (unhide HY).cell 3 rfl
    have y3f := (unhide HY).frozen 3 rfl
    have q0 := (unhide HZ4).cell 0 rfl
    have q0f := (unhide HZ4).frozen 0 rfl
    have q1 := (unhide HZ4).cell 1 rfl
    have q1f := (unhide HZ4).frozen 1 rfl
    have q2 := (unhide HZ4).cell 2 rfl
    have q2f := (unhide HZ4).frozen 2 rfl
    have q3 := (unhide HZ4).cell 3 rfl
    have q3f := (unhide HZ4).frozen 3 rfl
    go_wp2_with fail
    (try clear x0 x1 x2 x3 z0 z1 z2 y0 y0f y1 y1f y2 y2f y3 y3f q0 q0f q1 q1f q2 q2f q3 q3f)
    (try clear x0 x1 x2 x3 z0 z1 z2 y0 y0f y1 y1f y2 y2f y3 y3f q0 q0f q1 q1f q2 q2f q3 q3f)
    replace HX := hide ((unhide HX).oth (g' := w.heap.size + 2) (i := 0) (.int .i64 s) (by omega))
    replace HH := hide ((unhide HH).oth (g' := w.heap.size + 2) (i := 0) (.int .i64 s) (by omega))
    replace HY := hide (box_put (unhide HY) 0 (.int .i64 s) (by simp))
    replace HO := hide ((unhide HO).kg (grown_cel _ (w.heap.size + 2) 0 (.int .i64 s)) (by omega))
    replace HZ4 := hide ((unhide HZ4).oth (g' := w.heap.size + 2) (i := 0) (.int .i64 s) (by omega))
    replace HB := hide (below_sc (p := ⟨w.heap.size + 2, 0, none⟩) (v := .int .i64 s) (unhide HB) (by dsimp only; omega))
    replace HX := hide ((unhide HX).oth (g' := w.heap.size + 2) (i := 1) (.int .i64 l) (by omega))
    replace HH := hide ((unhide HH).oth (g' := w.heap.size + 2) (i := 1) (.int .i64 l) (by omega))
    replace HY := hide (box_put (unhide HY) 1 (.int .i64 l) (by simp))
    replace HO := hide ((unhide HO).kg (grown_cel _ (w.heap.size + 2) 1 (.int .i64 l)) (by omega))
    replace HZ4 := hide ((unhide HZ4).oth (g' := w.heap.size + 2) (i := 1) (.int .i64 l) (by omega))
    replace HB := hide (below_sc (p := ⟨w.heap.size + 2, 1, none⟩) (v := .int .i64 l) (unhide HB) (by dsimp only; omega))
    replace HX := hide ((unhide HX).oth (g' := w.heap.size + 2) (i := 2) (.int .i64 o) (by omega))
    replace HH := hide ((unhide HH).oth (g' := w.heap.size + 2) (i := 2) (.int .i64 o) (by omega))
    replace HY := hide (box_put (unhide HY) 2 (.int .i64 o) (by simp))
    replace HO := hide ((unhide HO).kg (grown_cel _ (w.heap.size + 2) 2 (.int .i64 o)) (by omega))
    replace HZ4 := hide ((unhide HZ4).oth (g' := w.heap.size + 2) (i := 2) (.int .i64 o) (by omega))
    replace HB := hide (below_sc (p := ⟨w.heap.size + 2, 2, none⟩) (v := .int .i64 o) (unhide HB) (by dsimp only; omega))
    replace HX := hide ((unhide HX).oth (g' := w.heap.size + 2) (i := 3) (.slice b zs.length j) (by omega))
    replace HH := hide ((unhide HH).oth (g' := w.heap.size + 2) (i := 3) (.slice b zs.length j) (by omega))
    replace HY := hide (box_put (unhide HY) 3 (.slice b zs.length j) (by simp))
    replace HO := hide ((unhide HO).kg (grown_cel _ (w.heap.size + 2) 3 (.slice b zs.length j)) (by omega))
    replace HZ4 := hide ((unhide HZ4).oth (g' := w.heap.size + 2) (i := 3) (.slice b zs.length j) (by omega))
    replace HB := hide (below_sc (p := ⟨w.heap.size + 2, 3, none⟩) (v := .slice b zs.length j) (unhide HB) (by dsimp only; omega))
    replace HY := hide (show Box _ (w.heap.size + 2) [.int .i64 s, .int .i64 l, .int .i64 o, .slice b zs.length j] from unhide HY)
    have x0 := (unhide HX).cell 0 rfl
    have x1 := (unhide HX).cell 1 rfl
    have x2 := (unhide HX).cell 2 rfl
    have x3 := (unhide HX).cell 3 rfl
    have z0 := (unhide HH).cell 0 rfl
    have z1 := (unhide HH).cell 1 rfl
    have z2 := (unhide HH).cell 2 rfl
    have y0 := (unhide HY).cell 0 rfl
    have y1 := (unhide HY).cell 1 rfl
    have y2 := (unhide HY).cell 2 rfl
    have y3 := (unhide HY).cell 3 rfl
    have q0 := (unhide HZ4).cell 0 rfl
    have q0f := (unhide HZ4).frozen 0 rfl
    have q1 := (unhide HZ4).cell 1 rfl
    have q1f := (unhide HZ4).frozen 1 rfl
    have q2 := (unhide HZ4).cell 2 rfl
    have q2f := (unhide HZ4).frozen 2 rfl
    have q3 := (unhide HZ4).cell 3 rfl
    have q3f := (unhide HZ4).frozen 3 rfl
    exact bodyPost_ret (v := .tuple #[.agg #[.int .i64 s, .int .i64 l, .int .i64 o, .slice b zs.length j], .bool false]) (results_ct Try.results55 rfl (load_gat (unhide HY))) rfl (by rw [hg.1, hg.2.1, hg.2.2]; exact ⟨_, rfl, (unhide HO).mono (by omega), unhide HB⟩)
  have hg := gs_go h1 h2
  refine (c60 s l o s2 l2 o2 ps bo m cap' _ (unhide HN2) hc2 hm2 (unhide HP)).mono ?_
  rintro e w3 ⟨rfl, hb⟩
  rw [h2]
  (try clear x0 x1 x2 x3 z0 z1 z2 y0 y0f y1 y1f y2 y2f y3 y3f q0 q0f q1 q1f q2 q2f q3 q3f)
  replace HB := hide (below_tr (unhide HB) hb)
  replace HR := hide ((unhide HR).bel hb)
  replace HP := hide ((unhide HP).bel hb)
  replace HX := hide ((unhide HX).bel hb)
  replace HH := hide ((unhide HH).bel hb)
  replace HY := hide ((unhide HY).bel hb)
  replace HO := hide ((unhide HO).bel hb)
  replace HZ4 := hide ((unhide HZ4).bel hb)
  clear hb
  have x0 := (unhide HX).cell 0 rfl
  have x1 := (unhide HX).cell 1 rfl
  have x2 := (unhide HX).cell 2 rfl
  have x3 := (unhide HX).cell 3 rfl
  have z0 := (unhide HH).cell 0 rfl
  have z1 := (unhide HH).cell 1 rfl
  have z2 := (unhide HH).cell 2 rfl
  have y0 := (unhide HY).cell 0 rfl
  have y0f := (unhide HY).frozen 0 rfl
  have y1 := (unhide HY).cell 1 rfl
  have y1f := (unhide HY).frozen 1 rfl
  have y2 := (unhide HY).cell 2 rfl
  have y2f := (unhide HY).frozen 2 rfl
  have y3 := (unhide HY).cell 3 rfl
  have y3f := (unhide HY).frozen 3 rfl
  have q0 := (unhide HZ4).cell 0 rfl
  have q0f := (unhide HZ4).frozen 0 rfl
  have q1 := (unhide HZ4).cell 1 rfl
  have q1f := (unhide HZ4).frozen 1 rfl
  have q2 := (unhide HZ4).cell 2 rfl
  have q2f := (unhide HZ4).frozen 2 rfl
  have q3 := (unhide HZ4).cell 3 rfl
  have q3f := (unhide HZ4).frozen 3 rfl
  go_wp2_with fail
  (try clear x0 x1 x2 x3 z0 z1 z2 y0 y0f y1 y1f y2 y2f y3 y3f q0 q0f q1 q1f q2 q2f q3 q3f)
  replace HO := hide ((unhide HO).kpt (grown_cel _ (w2.heap.size) 0 (.int .i64 s2)) (fun q hq e => by have := hob q hq; simp only [Option.some.injEq] at e; omega))
  replace HO := hide ((unhide HO).kpt (grown_cel _ (w2.heap.size) 1 (.int .i64 l2)) (fun q hq e => by have := hob q hq; simp only [Option.some.injEq] at e; omega))
  replace HO := hide ((unhide HO).kpt (grown_cel _ (w2.heap.size) 2 (.int .i64 o2)) (fun q hq e => by have := hob q hq; simp only [Option.some.injEq] at e; omega))
  (try clear x0 x1 x2 x3 z0 z1 z2 y0 y0f y1 y1f y2 y2f y3 y3f q0 q0f q1 q1f q2 q2f q3 q3f)
  replace HX := hide ((unhide HX).oth (g' := w2.heap.size) (i := 0) (.int .i64 s2) (by omega))
  replace HH := hide ((unhide HH).oth (g' := w2.heap.size) (i := 0) (.int .i64 s2) (by omega))
  replace HY := hide ((unhide HY).oth (g' := w2.heap.size) (i := 0) (.int .i64 s2) (by omega))
  replace HZ4 := hide (box_put (unhide HZ4) 0 (.int .i64 s2) (by simp))
  replace HB := hide (below_sc (p := ⟨w2.heap.size, 0, none⟩) (v := .int .i64 s2) (unhide HB) (by dsimp only; omega))
  replace HX := hide ((unhide HX).oth (g' := w2.heap.size) (i := 1) (.int .i64 l2) (by omega))
  replace HH := hide ((unhide HH).oth (g' := w2.heap.size) (i := 1) (.int .i64 l2) (by omega))
  replace HY := hide ((unhide HY).oth (g' := w2.heap.size) (i := 1) (.int .i64 l2) (by omega))
  replace HZ4 := hide (box_put (unhide HZ4) 1 (.int .i64 l2) (by simp))
  replace HB := hide (below_sc (p := ⟨w2.heap.size, 1, none⟩) (v := .int .i64 l2) (unhide HB) (by dsimp only; omega))
  replace HX := hide ((unhide HX).oth (g' := w2.heap.size) (i := 2) (.int .i64 o2) (by omega))
  replace HH := hide ((unhide HH).oth (g' := w2.heap.size) (i := 2) (.int .i64 o2) (by omega))
  replace HY := hide ((unhide HY).oth (g' := w2.heap.size) (i := 2) (.int .i64 o2) (by omega))
  replace HZ4 := hide (box_put (unhide HZ4) 2 (.int .i64 o2) (by simp))
  replace HB := hide (below_sc (p := ⟨w2.heap.size, 2, none⟩) (v := .int .i64 o2) (unhide HB) (by dsimp only; omega))
  replace HZ4 := hide (show Box _ (w2.heap.size) [.int .i64 s2, .int .i64 l2, .int .i64 o2, .slice b zs.length j] from unhide HZ4)
  have x0 := (unhide HX).cell 0 rfl
  have x1 := (unhide HX).cell 1 rfl
  have x2 := (unhide HX).cell 2 rfl
  have x3 := (unhide HX).cell 3 rfl
  have z0 := (unhide HH).cell 0 rfl
  have z1 := (unhide HH).cell 1 rfl
  have z2 := (unhide HH).cell 2 rfl
  have y0 := (unhide HY).cell 0 rfl
  have y0f := (unhide HY).frozen 0 rfl
  have y1 := (unhide HY).cell 1 rfl
  have y1f := (unhide HY).frozen 1 rfl
  have y2 := (unhide HY).cell 2 rfl
  have y2f := (unhide HY).frozen 2 rfl
  have y3 := (unhide HY).cell 3 rfl
  have y3f := (unhide HY).frozen 3 rfl
  have q0 := (unhide HZ4).cell 0 rfl
  have q1 := (unhide HZ4).cell 1 rfl
  have q2 := (unhide HZ4).cell 2 rfl
  have q3 := (unhide HZ4).cell 3 rfl
  (try clear x0 x1 x2 x3 z0 z1 z2 y0 y0f y1 y1f y2 y2f y3 y3f q0 q1 q2 q3)
  (try clear x0 x1 x2 x3 z0 z1 z2 y0 y0f y1 y1f y2 y2f y3 y3f q0 q1 q2 q3)
  replace HX := hide ((unhide HX).oth (g' := w.heap.size + 2) (i := 0) (.int .i64 s2) (by omega))
  replace HH := hide ((unhide HH).oth (g' := w.heap.size + 2) (i := 0) (.int .i64 s2) (by omega))
  replace HY := hide (box_put (unhide HY) 0 (.int .i64 s2) (by simp))
  replace HZ4 := hide ((unhide HZ4).oth (g' := w.heap.size + 2) (i := 0) (.int .i64 s2) (by omega))
  replace HO := hide ((unhide HO).kg (grown_cel _ (w.heap.size + 2) 0 (.int .i64 s2)) (by omega))
  replace HB := hide (below_sc (p := ⟨w.heap.size + 2, 0, none⟩) (v := .int .i64 s2) (unhide HB) (by dsimp only; omega))
  replace HX := hide ((unhide HX).oth (g' := w.heap.size + 2) (i := 1) (.int .i64 l2) (by omega))
  replace HH := hide ((unhide HH).oth (g' := w.heap.size + 2) (i := 1) (.int .i64 l2) (by omega))
  replace HY := hide (box_put (unhide HY) 1 (.int .i64 l2) (by simp))
  replace HZ4 := hide ((unhide HZ4).oth (g' := w.heap.size + 2) (i := 1) (.int .i64 l2) (by omega))
  replace HO := hide ((unhide HO).kg (grown_cel _ (w.heap.size + 2) 1 (.int .i64 l2)) (by omega))
  replace HB := hide (below_sc (p := ⟨w.heap.size + 2, 1, none⟩) (v := .int .i64 l2) (unhide HB) (by dsimp only; omega))
  replace HX := hide ((unhide HX).oth (g' := w.heap.size + 2) (i := 2) (.int .i64 o2) (by omega))
  replace HH := hide ((unhide HH).oth (g' := w.heap.size + 2) (i := 2) (.int .i64 o2) (by omega))
  replace HY := hide (box_put (unhide HY) 2 (.int .i64 o2) (by simp))
  replace HZ4 := hide ((unhide HZ4).oth (g' := w.heap.size + 2) (i := 2) (.int .i64 o2) (by omega))
  replace HO := hide ((unhide HO).kg (grown_cel _ (w.heap.size + 2) 2 (.int .i64 o2)) (by omega))
  replace HB := hide (below_sc (p := ⟨w.heap.size + 2, 2, none⟩) (v := .int .i64 o2) (unhide HB) (by dsimp only; omega))
  replace HX := hide ((unhide HX).oth (g' := w.heap.size + 2) (i := 3) (.slice b zs.length j) (by omega))
  replace HH := hide ((unhide HH).oth (g' := w.heap.size + 2) (i := 3) (.slice b zs.length j) (by omega))
  replace HY := hide (box_put (unhide HY) 3 (.slice b zs.length j) (by simp))
  replace HZ4 := hide ((unhide HZ4).oth (g' := w.heap.size + 2) (i := 3) (.slice b zs.length j) (by omega))
  replace HO := hide ((unhide HO).kg (grown_cel _ (w.heap.size + 2) 3 (.slice b zs.length j)) (by omega))
  replace HB := hide (below_sc (p := ⟨w.heap.size + 2, 3, none⟩) (v := .slice b zs.length j) (unhide HB) (by dsimp only; omega))
  replace HY := hide (show Box _ (w.heap.size + 2) [.int .i64 s2, .int .i64 l2, .int .i64 o2, .slice b zs.length j] from unhide HY)
  have x0 := (unhide HX).cell 0 rfl
  have x1 := (unhide HX).cell 1 rfl
  have x2 := (unhide HX).cell 2 rfl
  have x3 := (unhide HX).cell 3 rfl
  have z0 := (unhide HH).cell 0 rfl
  have z1 := (unhide HH).cell 1 rfl
  have z2 := (unhide HH).cell 2 rfl
  have y0 := (unhide HY).cell 0 rfl
  have y1 := (unhide HY).cell 1 rfl
  have y2 := (unhide HY).cell 2 rfl
  have y3 := (unhide HY).cell 3 rfl
  have q0 := (unhide HZ4).cell 0 rfl
  have q1 := (unhide HZ4).cell 1 rfl
  have q2 := (unhide HZ4).cell 2 rfl
  have q3 := (unhide HZ4).cell 3 rfl
  exact bodyPost_ret (v := .tuple #[.agg #[.int .i64 s2, .int .i64 l2, .int .i64 o2, .slice b zs.length j], .bool true]) (results_ct Try.results55 rfl (load_gat (unhide HY))) rfl (by rw [hg.1, hg.2.1, hg.2.2]; exact ⟨_, rfl, (unhide HO).mono (by omega), unhide HB⟩)
set_option maxHeartbeats 4000000 in
theorem c56 (s l o : Int) (zs : List Int) (ao : Option Addr) (n cap : Nat) (s2 l2 o2 : Int) (ps : List Int) (bo : Option Addr) (m cap' : Nat) (w : World) (hn : zs.length = n) (hm : n ≤ 1048576) (hz : ao = none → cap = 0) (hr : Row w ao zs)
    (hn2 : ps.length = m) (hc2 : m ≤ cap') (hm2 : m ≤ 1048576) (hr2 : Row w bo ps) : Calls Try.prog 56 #[gatV s l o (.slice ao n cap), hedV s2 l2 o2, .slice bo m cap'] w (GTold2 w (gsyncH s l o zs s2 l2 o2 ps) (gsyncD s l o zs) (gsyncOk s l o zs s2 l2 o2 ps)) := by
  subst hn
  have HR := hide hr
  have HP := hide hr2
  have HZ := hide hz
  have HN2 := hide hn2
  clear hr hr2 hz hn2
  have HB := hide (Below.refl w.heap.size w)
  replace HB := hide (below_al (o := .cells #[.int .i64 s, .int .i64 l, .int .i64 o, .slice ao zs.length cap] 63) (unhide HB))
  replace HR := hide ((unhide HR).bel (below_a (.cells #[.int .i64 s, .int .i64 l, .int .i64 o, .slice ao zs.length cap] 63)))
  replace HP := hide ((unhide HP).bel (below_a (.cells #[.int .i64 s, .int .i64 l, .int .i64 o, .slice ao zs.length cap] 63)))
  have HX := hide (box_new w [.int .i64 s, .int .i64 l, .int .i64 o, .slice ao zs.length cap] 63 (by simp [Value.oneCell']))
  (try simp only [World.size_alloc] at HX)
  replace HB := hide (below_al (o := .cells #[.int .i64 s2, .int .i64 l2, .int .i64 o2] 61) (unhide HB))
  replace HR := hide ((unhide HR).bel (below_a (.cells #[.int .i64 s2, .int .i64 l2, .int .i64 o2] 61)))
  replace HP := hide ((unhide HP).bel (below_a (.cells #[.int .i64 s2, .int .i64 l2, .int .i64 o2] 61)))
  replace HX := hide ((unhide HX).bel (below_a (.cells #[.int .i64 s2, .int .i64 l2, .int .i64 o2] 61)))
  have HH := hide (box_new (w.alloc (.cells #[.int .i64 s, .int .i64 l, .int .i64 o, .slice ao zs.length cap] 63)) [.int .i64 s2, .int .i64 l2, .int .i64 o2] 61 (by simp [Value.oneCell']))
  (try simp only [World.size_alloc] at HH)
  replace HB := hide (below_al (o := .cells #[.int .i64 0, .int .i64 0, .int .i64 0, .slice none 0 0] 63) (unhide HB))
  replace HR := hide ((unhide HR).bel (below_a (.cells #[.int .i64 0, .int .i64 0, .int .i64 0, .slice none 0 0] 63)))
  replace HP := hide ((unhide HP).bel (below_a (.cells #[.int .i64 0, .int .i64 0, .int .i64 0, .slice none 0 0] 63)))
  replace HX := hide ((unhide HX).bel (below_a (.cells #[.int .i64 0, .int .i64 0, .int .i64 0, .slice none 0 0] 63)))
  replace HH := hide ((unhide HH).bel (below_a (.cells #[.int .i64 0, .int .i64 0, .int .i64 0, .slice none 0 0] 63)))
  have HY := hide (box_new ((w.alloc (.cells #[.int .i64 s, .int .i64 l, .int .i64 o, .slice ao zs.length cap] 63)).alloc (.cells #[.int .i64 s2, .int .i64 l2, .int .i64 o2] 61)) [.int .i64 0, .int .i64 0, .int .i64 0, .slice none 0 0] 63 (by simp [Value.oneCell']))
  (try simp only [World.size_alloc] at HY)
  have x0 := (unhide HX).cell 0 rfl
  have x1 := (unhide HX).cell 1 rfl
  have x2 := (unhide HX).cell 2 rfl
  have x3 := (unhide HX).cell 3 rfl
  have z0 := (unhide HH).cell 0 rfl
  have z1 := (unhide HH).cell 1 rfl
  have z2 := (unhide HH).cell 2 rfl
  have y0 := (unhide HY).cell 0 rfl
  have y0f := (unhide HY).frozen 0 rfl
  have y1 := (unhide HY).cell 1 rfl
  have y1f := (unhide HY).frozen 1 rfl
  have y2 := (unhide HY).cell 2 rfl
  have y2f := (unhide HY).frozen 2 rfl
  have y3 := (unhide HY).cell 3 rfl
  have y3f := (unhide HY).frozen 3 rfl
  go_enter Try.func56, Try.ntmps56
  go_wp2_with fail
  rcases h1 : gatOk s l o zs with _ | _
  case false =>
    have hg := gs_no (s2 := s2) (l2 := l2) (o2 := o2) (ps := ps) h1
    refine (c59 s l o zs ao zs.length cap _ rfl (by omega) (unhide HR)).mono ?_
    rintro e w1 ⟨rfl, hb⟩
    rw [h1]
    (try clear x0 x1 x2 x3 z0 z1 z2 y0 y0f y1 y1f y2 y2f y3 y3f)
    replace HB := hide (below_tr (unhide HB) hb)
    replace HR := hide ((unhide HR).bel hb)
    replace HP := hide ((unhide HP).bel hb)
    replace HX := hide ((unhide HX).bel hb)
    replace HH := hide ((unhide HH).bel hb)
    replace HY := hide ((unhide HY).bel hb)
    clear hb
    have x0 := (unhide HX).cell 0 rfl
    have x1 := (unhide HX).cell 1 rfl
    have x2 := (unhide HX).cell 2 rfl
    have x3 := (unhide HX).cell 3 rfl
    have z0 := (unhide HH).cell 0 rfl
    have z1 := (unhide HH).cell 1 rfl
    have z2 := (unhide HH).cell 2 rfl
    have y0 := (unhide HY).cell 0 rfl
    have y0f := (unhide HY).frozen 0 rfl
    have y1 := (unhide HY).cell 1 rfl
    have y1f := (unhide HY).frozen 1 rfl
    have y2 := (unhide HY).cell 2 rfl
    have y2f := (unhide HY).frozen 2 rfl
    have y3 := (unhide HY).cell 3 rfl
    have y3f := (unhide HY).frozen 3 rfl
    go_wp2_with fail
    (try clear x0 x1 x2 x3 z0 z1 z2 y0 y0f y1 y1f y2 y2f y3 y3f)
    (try clear x0 x1 x2 x3 z0 z1 z2 y0 y0f y1 y1f y2 y2f y3 y3f)
    replace HX := hide ((unhide HX).oth (g' := w.heap.size + 2) (i := 0) (.int .i64 0) (by omega))
    replace HH := hide ((unhide HH).oth (g' := w.heap.size + 2) (i := 0) (.int .i64 0) (by omega))
    replace HY := hide (box_put (unhide HY) 0 (.int .i64 0) (by simp))
    replace HB := hide (below_sc (p := ⟨w.heap.size + 2, 0, none⟩) (v := .int .i64 0) (unhide HB) (by dsimp only; omega))
    replace HX := hide ((unhide HX).oth (g' := w.heap.size + 2) (i := 1) (.int .i64 0) (by omega))
    replace HH := hide ((unhide HH).oth (g' := w.heap.size + 2) (i := 1) (.int .i64 0) (by omega))
    replace HY := hide (box_put (unhide HY) 1 (.int .i64 0) (by simp))
    replace HB := hide (below_sc (p := ⟨w.heap.size + 2, 1, none⟩) (v := .int .i64 0) (unhide HB) (by dsimp only; omega))
    replace HX := hide ((unhide HX).oth (g' := w.heap.size + 2) (i := 2) (.int .i64 0) (by omega))
    replace HH := hide ((unhide HH).oth (g' := w.heap.size + 2) (i := 2) (.int .i64 0) (by omega))
    replace HY := hide (box_put (unhide HY) 2 (.int .i64 0) (by simp))
    replace HB := hide (below_sc (p := ⟨w.heap.size + 2, 2, none⟩) (v := .int .i64 0) (unhide HB) (by dsimp only; omega))
    replace HX := hide ((unhide HX).oth (g' := w.heap.size + 2) (i := 3) (.slice none 0 0) (by omega))
    replace HH := hide ((unhide HH).oth (g' := w.heap.size + 2) (i := 3) (.slice none 0 0) (by omega))
    replace HY := hide (box_put (unhide HY) 3 (.slice none 0 0) (by simp))
    replace HB := hide (below_sc (p := ⟨w.heap.size + 2, 3, none⟩) (v := .slice none 0 0) (unhide HB) (by dsimp only; omega))
    replace HY := hide (show Box _ (w.heap.size + 2) [.int .i64 0, .int .i64 0, .int .i64 0, .slice none 0 0] from unhide HY)
    have x0 := (unhide HX).cell 0 rfl
    have x1 := (unhide HX).cell 1 rfl
    have x2 := (unhide HX).cell 2 rfl
    have x3 := (unhide HX).cell 3 rfl
    have z0 := (unhide HH).cell 0 rfl
    have z1 := (unhide HH).cell 1 rfl
    have z2 := (unhide HH).cell 2 rfl
    have y0 := (unhide HY).cell 0 rfl
    have y1 := (unhide HY).cell 1 rfl
    have y2 := (unhide HY).cell 2 rfl
    have y3 := (unhide HY).cell 3 rfl
    exact bodyPost_ret (v := .tuple #[.agg #[.int .i64 0, .int .i64 0, .int .i64 0, .slice none 0 0], .bool false]) (results_ct Try.results56 rfl (load_gat (unhide HY))) rfl (by rw [hg.1, hg.2.1, hg.2.2]; exact ⟨_, rfl, own_none _ _ (unhide HB).size, unhide HB⟩)
  refine (c59 s l o zs ao zs.length cap _ rfl (by omega) (unhide HR)).mono ?_
  rintro e w1 ⟨rfl, hb⟩
  rw [h1]
  (try clear x0 x1 x2 x3 z0 z1 z2 y0 y0f y1 y1f y2 y2f y3 y3f)
  replace HB := hide (below_tr (unhide HB) hb)
  replace HR := hide ((unhide HR).bel hb)
  replace HP := hide ((unhide HP).bel hb)
  replace HX := hide ((unhide HX).bel hb)
  replace HH := hide ((unhide HH).bel hb)
  replace HY := hide ((unhide HY).bel hb)
  clear hb
  have x0 := (unhide HX).cell 0 rfl
  have x1 := (unhide HX).cell 1 rfl
  have x2 := (unhide HX).cell 2 rfl
  have x3 := (unhide HX).cell 3 rfl
  have z0 := (unhide HH).cell 0 rfl
  have z1 := (unhide HH).cell 1 rfl
  have z2 := (unhide HH).cell 2 rfl
  have y0 := (unhide HY).cell 0 rfl
  have y0f := (unhide HY).frozen 0 rfl
  have y1 := (unhide HY).cell 1 rfl
  have y1f := (unhide HY).frozen 1 rfl
  have y2 := (unhide HY).cell 2 rfl
  have y2f := (unhide HY).frozen 2 rfl
  have y3 := (unhide HY).cell 3 rfl
  have y3f := (unhide HY).frozen 3 rfl
  go_wp2_with fail
  refine (c140 s l o zs ao zs.length cap _ rfl hm (unhide HZ) (unhide HR)).mono ?_
  rintro e w2 ⟨v, rfl, ho, hb⟩
  obtain ⟨b, j, rfl⟩ := live_form ho.2
  have hob : ∀ q, (Value.slice b zs.length j).ownBlock = some q → q < w2.heap.size := fun q hq => (ho.2.lt q hq).2
  have hgy1 := (unhide HY).lt
  have hgy2 := Nat.lt_of_lt_of_le hgy1 hb.size
  (try clear x0 x1 x2 x3 z0 z1 z2 y0 y0f y1 y1f y2 y2f y3 y3f)
  replace HB := hide (below_tr (unhide HB) hb)
  replace HR := hide ((unhide HR).bel hb)
  replace HP := hide ((unhide HP).bel hb)
  replace HX := hide ((unhide HX).bel hb)
  replace HH := hide ((unhide HH).bel hb)
  replace HY := hide ((unhide HY).bel hb)
  have HO := hide (ho)
  clear hb ho
  have x0 := (unhide HX).cell 0 rfl
  have x1 := (unhide HX).cell 1 rfl
  have x2 := (unhide HX).cell 2 rfl
  have x3 := (unhide HX).cell 3 rfl
  have z0 := (unhide HH).cell 0 rfl
  have z1 := (unhide HH).cell 1 rfl
  have z2 := (unhide HH).cell 2 rfl
  have y0 := (unhide HY).cell 0 rfl
  have y0f := (unhide HY).frozen 0 rfl
  have y1 := (unhide HY).cell 1 rfl
  have y1f := (unhide HY).frozen 1 rfl
  have y2 := (unhide HY).cell 2 rfl
  have y2f := (unhide HY).frozen 2 rfl
  have y3 := (unhide HY).cell 3 rfl
  have y3f := (unhide HY).frozen 3 rfl
  (try clear x0 x1 x2 x3 z0 z1 z2 y0 y0f y1 y1f y2 y2f y3 y3f)
  replace HB := hide (below_al (o := .cells #[.int .i64 s, .int .i64 l, .int .i64 o, .slice b zs.length j] 63) (unhide HB))
  replace HR := hide ((unhide HR).bel (below_a (.cells #[.int .i64 s, .int .i64 l, .int .i64 o, .slice b zs.length j] 63)))
  replace HP := hide ((unhide HP).bel (below_a (.cells #[.int .i64 s, .int .i64 l, .int .i64 o, .slice b zs.length j] 63)))
  replace HX := hide ((unhide HX).bel (below_a (.cells #[.int .i64 s, .int .i64 l, .int .i64 o, .slice b zs.length j] 63)))
  replace HH := hide ((unhide HH).bel (below_a (.cells #[.int .i64 s, .int .i64 l, .int .i64 o, .slice b zs.length j] 63)))
  replace HY := hide ((unhide HY).bel (below_a (.cells #[.int .i64 s, .int .i64 l, .int .i64 o, .slice b zs.length j] 63)))
  replace HO := hide ((unhide HO).bel (below_a (.cells #[.int .i64 s, .int .i64 l, .int .i64 o, .slice b zs.length j] 63)))
  have HZ4 := hide (box_new w2 [.int .i64 s, .int .i64 l, .int .i64 o, .slice b zs.length j] 63 (by simp [Value.oneCell']))
  have x0 := (unhide HX).cell 0 rfl
  have x1 := (unhide HX).cell 1 rfl
  have x2 := (unhide HX).cell 2 rfl
  have x3 := (unhide HX).cell 3 rfl
  have z0 := (unhide HH).cell 0 rfl
  have z1 := (unhide HH).cell 1 rfl
  have z2 := (unhide HH).cell 2 rfl
  have y0 := (unhide HY).cell 0 rfl
  have y0f := (unhide HY).frozen 0 rfl
  have y1 := (unhide HY).cell 1 rfl
  have y1f := (unhide HY).frozen 1 rfl
  have y2 := (unhide HY).cell 2 rfl
  have y2f := (unhide HY).frozen 2 rfl
  have y3 := (unhide HY).cell 3 rfl
  have y3f := (unhide HY).frozen 3 rfl
  have q0 := (unhide HZ4).cell 0 rfl
  have q1 := (unhide HZ4).cell 1 rfl
  have q2 := (unhide HZ4).cell 2 rfl
  have q3 := (unhide HZ4).cell 3 rfl
  have hgz := (unhide HY).lt
  (try clear q0 q1 q2 q3)
  have q0 := (unhide HZ4).cell 0 rfl
  have q0f := (unhide HZ4).frozen 0 rfl
  have q1 := (unhide HZ4).cell 1 rfl
  have q1f := (unhide HZ4).frozen 1 rfl
  have q2 := (unhide HZ4).cell 2 rfl
  have q2f := (unhide HZ4).frozen 2 rfl
  have q3 := (unhide HZ4).cell 3 rfl
  have q3f := (unhide HZ4).frozen 3 rfl
  go_wp2_with fail
  rcases h2 : hedFollows s l o s2 l2 o2 ps with _ | _
  case false =>
    have hg := gs_stay h1 h2
    refine (c141 s l o s2 l2 o2 ps bo m cap' _ (unhide HN2) hc2 hm2 (unhide HP)).mono ?_
    rintro e w3 ⟨rfl, hb⟩
    rw [h2]
    (try clear x0 x1 x2 x3 z0 z1 z2 y0 y0f y1 y1f y2 y2f y3 y3f q0 q0f q1 q1f q2 q2f q3 q3f)
    replace HB := hide (below_tr (unhide HB) hb)
    replace HR := hide ((unhide HR).bel hb)
    replace HP := hide ((unhide HP).bel hb)
    replace HX := hide ((unhide HX).bel hb)
    replace HH := hide ((unhide HH).bel hb)
    replace HY := hide ((unhide HY).bel hb)
    replace HO := hide ((unhide HO).bel hb)
    replace HZ4 := hide ((unhide HZ4).bel hb)
    clear hb
    have x0 := (unhide HX).cell 0 rfl
    have x1 := (unhide HX).cell 1 rfl
    have x2 := (unhide HX).cell 2 rfl
    have x3 := (unhide HX).cell 3 rfl
    have z0 := (unhide HH).cell 0 rfl
    have z1 := (unhide HH).cell 1 rfl
    have z2 := (unhide HH).cell 2 rfl
    have y0 := (unhide HY).cell 0 rfl
    have y0f := (unhide HY).frozen 0 rfl
    have y1 := (unhide HY).cell 1 rfl
    have y1f := (unhide HY).frozen 1 rfl
    have y2 := (unhide HY).cell 2 rfl
    have y2f := (unhide HY).frozen 2 rfl
    have y3 := (unhide HY).cell 3 rfl
    have y3f := (unhide HY).frozen 3 rfl
    have q0 := (unhide HZ4).cell 0 rfl
    have q0f := (unhide HZ4).frozen 0 rfl
    have q1 := (unhide HZ4).cell 1 rfl
    have q1f := (unhide HZ4).frozen 1 rfl
    have q2 := (unhide HZ4).cell 2 rfl
    have q2f := (unhide HZ4).frozen 2 rfl
    have q3 := (unhide HZ4).cell 3 rfl
    have q3f := (unhide HZ4).frozen 3 rfl
    go_wp2_with fail
    (try clear x0 x1 x2 x3 z0 z1 z2 y0 y0f y1 y1f y2 y2f y3 y3f q0 q0f q1 q1f q2 q2f q3 q3f)
    (try clear x0 x1 x2 x3 z0 z1 z2 y0 y0f y1 y1f y2 y2f y3 y3f q0 q0f q1 q1f q2 q2f q3 q3f)
    replace HX := hide ((unhide HX).oth (g' := w.heap.size + 2) (i := 0) (.int .i64 s) (by omega))
    replace HH := hide ((unhide HH).oth (g' := w.heap.size + 2) (i := 0) (.int .i64 s) (by omega))
    replace HY := hide (box_put (unhide HY) 0 (.int .i64 s) (by simp))
    replace HO := hide ((unhide HO).kg (grown_cel _ (w.heap.size + 2) 0 (.int .i64 s)) (by omega))
    replace HZ4 := hide ((unhide HZ4).oth (g' := w.heap.size + 2) (i := 0) (.int .i64 s) (by omega))
    replace HB := hide (below_sc (p := ⟨w.heap.size + 2, 0, none⟩) (v := .int .i64 s) (unhide HB) (by dsimp only; omega))
    replace HX := hide ((unhide HX).oth (g' := w.heap.size + 2) (i := 1) (.int .i64 l) (by omega))
    replace HH := hide ((unhide HH).oth (g' := w.heap.size + 2) (i := 1) (.int .i64 l) (by omega))
    replace HY := hide (box_put (unhide HY) 1 (.int .i64 l) (by simp))
    replace HO := hide ((unhide HO).kg (grown_cel _ (w.heap.size + 2) 1 (.int .i64 l)) (by omega))
    replace HZ4 := hide ((unhide HZ4).oth (g' := w.heap.size + 2) (i := 1) (.int .i64 l) (by omega))
    replace HB := hide (below_sc (p := ⟨w.heap.size + 2, 1, none⟩) (v := .int .i64 l) (unhide HB) (by dsimp only; omega))
    replace HX := hide ((unhide HX).oth (g' := w.heap.size + 2) (i := 2) (.int .i64 o) (by omega))
    replace HH := hide ((unhide HH).oth (g' := w.heap.size + 2) (i := 2) (.int .i64 o) (by omega))
    replace HY := hide (box_put (unhide HY) 2 (.int .i64 o) (by simp))
    replace HO := hide ((unhide HO).kg (grown_cel _ (w.heap.size + 2) 2 (.int .i64 o)) (by omega))
    replace HZ4 := hide ((unhide HZ4).oth (g' := w.heap.size + 2) (i := 2) (.int .i64 o) (by omega))
    replace HB := hide (below_sc (p := ⟨w.heap.size + 2, 2, none⟩) (v := .int .i64 o) (unhide HB) (by dsimp only; omega))
    replace HX := hide ((unhide HX).oth (g' := w.heap.size + 2) (i := 3) (.slice b zs.length j) (by omega))
    replace HH := hide ((unhide HH).oth (g' := w.heap.size + 2) (i := 3) (.slice b zs.length j) (by omega))
    replace HY := hide (box_put (unhide HY) 3 (.slice b zs.length j) (by simp))
    replace HO := hide ((unhide HO).kg (grown_cel _ (w.heap.size + 2) 3 (.slice b zs.length j)) (by omega))
    replace HZ4 := hide ((unhide HZ4).oth (g' := w.heap.size + 2) (i := 3) (.slice b zs.length j) (by omega))
    replace HB := hide (below_sc (p := ⟨w.heap.size + 2, 3, none⟩) (v := .slice b zs.length j) (unhide HB) (by dsimp only; omega))
    replace HY := hide (show Box _ (w.heap.size + 2) [.int .i64 s, .int .i64 l, .int .i64 o, .slice b zs.length j] from unhide HY)
    have x0 := (unhide HX).cell 0 rfl
    have x1 := (unhide HX).cell 1 rfl
    have x2 := (unhide HX).cell 2 rfl
    have x3 := (unhide HX).cell 3 rfl
    have z0 := (unhide HH).cell 0 rfl
    have z1 := (unhide HH).cell 1 rfl
    have z2 := (unhide HH).cell 2 rfl
    have y0 := (unhide HY).cell 0 rfl
    have y1 := (unhide HY).cell 1 rfl
    have y2 := (unhide HY).cell 2 rfl
    have y3 := (unhide HY).cell 3 rfl
    have q0 := (unhide HZ4).cell 0 rfl
    have q0f := (unhide HZ4).frozen 0 rfl
    have q1 := (unhide HZ4).cell 1 rfl
    have q1f := (unhide HZ4).frozen 1 rfl
    have q2 := (unhide HZ4).cell 2 rfl
    have q2f := (unhide HZ4).frozen 2 rfl
    have q3 := (unhide HZ4).cell 3 rfl
    have q3f := (unhide HZ4).frozen 3 rfl
    exact bodyPost_ret (v := .tuple #[.agg #[.int .i64 s, .int .i64 l, .int .i64 o, .slice b zs.length j], .bool false]) (results_ct Try.results56 rfl (load_gat (unhide HY))) rfl (by rw [hg.1, hg.2.1, hg.2.2]; exact ⟨_, rfl, (unhide HO).mono (by omega), unhide HB⟩)
  have hg := gs_go h1 h2
  refine (c141 s l o s2 l2 o2 ps bo m cap' _ (unhide HN2) hc2 hm2 (unhide HP)).mono ?_
  rintro e w3 ⟨rfl, hb⟩
  rw [h2]
  (try clear x0 x1 x2 x3 z0 z1 z2 y0 y0f y1 y1f y2 y2f y3 y3f q0 q0f q1 q1f q2 q2f q3 q3f)
  replace HB := hide (below_tr (unhide HB) hb)
  replace HR := hide ((unhide HR).bel hb)
  replace HP := hide ((unhide HP).bel hb)
  replace HX := hide ((unhide HX).bel hb)
  replace HH := hide ((unhide HH).bel hb)
  replace HY := hide ((unhide HY).bel hb)
  replace HO := hide ((unhide HO).bel hb)
  replace HZ4 := hide ((unhide HZ4).bel hb)
  clear hb
  have x0 := (unhide HX).cell 0 rfl
  have x1 := (unhide HX).cell 1 rfl
  have x2 := (unhide HX).cell 2 rfl
  have x3 := (unhide HX).cell 3 rfl
  have z0 := (unhide HH).cell 0 rfl
  have z1 := (unhide HH).cell 1 rfl
  have z2 := (unhide HH).cell 2 rfl
  have y0 := (unhide HY).cell 0 rfl
  have y0f := (unhide HY).frozen 0 rfl
  have y1 := (unhide HY).cell 1 rfl
  have y1f := (unhide HY).frozen 1 rfl
  have y2 := (unhide HY).cell 2 rfl
  have y2f := (unhide HY).frozen 2 rfl
  have y3 := (unhide HY).cell 3 rfl
  have y3f := (unhide HY).frozen 3 rfl
  have q0 := (unhide HZ4).cell 0 rfl
  have q0f := (unhide HZ4).frozen 0 rfl
  have q1 := (unhide HZ4).cell 1 rfl
  have q1f := (unhide HZ4).frozen 1 rfl
  have q2 := (unhide HZ4).cell 2 rfl
  have q2f := (unhide HZ4).frozen 2 rfl
  have q3 := (unhide HZ4).cell 3 rfl
  have q3f := (unhide HZ4).frozen 3 rfl
  go_wp2_with fail
  (try clear x0 x1 x2 x3 z0 z1 z2 y0 y0f y1 y1f y2 y2f y3 y3f q0 q0f q1 q1f q2 q2f q3 q3f)
  replace HO := hide ((unhide HO).kpt (grown_cel _ (w2.heap.size) 0 (.int .i64 s2)) (fun q hq e => by have := hob q hq; simp only [Option.some.injEq] at e; omega))
  replace HO := hide ((unhide HO).kpt (grown_cel _ (w2.heap.size) 1 (.int .i64 l2)) (fun q hq e => by have := hob q hq; simp only [Option.some.injEq] at e; omega))
  replace HO := hide ((unhide HO).kpt (grown_cel _ (w2.heap.size) 2 (.int .i64 o2)) (fun q hq e => by have := hob q hq; simp only [Option.some.injEq] at e; omega))
  (try clear x0 x1 x2 x3 z0 z1 z2 y0 y0f y1 y1f y2 y2f y3 y3f q0 q0f q1 q1f q2 q2f q3 q3f)
  replace HX := hide ((unhide HX).oth (g' := w2.heap.size) (i := 0) (.int .i64 s2) (by omega))
  replace HH := hide ((unhide HH).oth (g' := w2.heap.size) (i := 0) (.int .i64 s2) (by omega))
  replace HY := hide ((unhide HY).oth (g' := w2.heap.size) (i := 0) (.int .i64 s2) (by omega))
  replace HZ4 := hide (box_put (unhide HZ4) 0 (.int .i64 s2) (by simp))
  replace HB := hide (below_sc (p := ⟨w2.heap.size, 0, none⟩) (v := .int .i64 s2) (unhide HB) (by dsimp only; omega))
  replace HX := hide ((unhide HX).oth (g' := w2.heap.size) (i := 1) (.int .i64 l2) (by omega))
  replace HH := hide ((unhide HH).oth (g' := w2.heap.size) (i := 1) (.int .i64 l2) (by omega))
  replace HY := hide ((unhide HY).oth (g' := w2.heap.size) (i := 1) (.int .i64 l2) (by omega))
  replace HZ4 := hide (box_put (unhide HZ4) 1 (.int .i64 l2) (by simp))
  replace HB := hide (below_sc (p := ⟨w2.heap.size, 1, none⟩) (v := .int .i64 l2) (unhide HB) (by dsimp only; omega))
  replace HX := hide ((unhide HX).oth (g' := w2.heap.size) (i := 2) (.int .i64 o2) (by omega))
  replace HH := hide ((unhide HH).oth (g' := w2.heap.size) (i := 2) (.int .i64 o2) (by omega))
  replace HY := hide ((unhide HY).oth (g' := w2.heap.size) (i := 2) (.int .i64 o2) (by omega))
  replace HZ4 := hide (box_put (unhide HZ4) 2 (.int .i64 o2) (by simp))
  replace HB := hide (below_sc (p := ⟨w2.heap.size, 2, none⟩) (v := .int .i64 o2) (unhide HB) (by dsimp only; omega))
  replace HZ4 := hide (show Box _ (w2.heap.size) [.int .i64 s2, .int .i64 l2, .int .i64 o2, .slice b zs.length j] from unhide HZ4)
  have x0 := (unhide HX).cell 0 rfl
  have x1 := (unhide HX).cell 1 rfl
  have x2 := (unhide HX).cell 2 rfl
  have x3 := (unhide HX).cell 3 rfl
  have z0 := (unhide HH).cell 0 rfl
  have z1 := (unhide HH).cell 1 rfl
  have z2 := (unhide HH).cell 2 rfl
  have y0 := (unhide HY).cell 0 rfl
  have y0f := (unhide HY).frozen 0 rfl
  have y1 := (unhide HY).cell 1 rfl
  have y1f := (unhide HY).frozen 1 rfl
  have y2 := (unhide HY).cell 2 rfl
  have y2f := (unhide HY).frozen 2 rfl
  have y3 := (unhide HY).cell 3 rfl
  have y3f := (unhide HY).frozen 3 rfl
  have q0 := (unhide HZ4).cell 0 rfl
  have q1 := (unhide HZ4).cell 1 rfl
  have q2 := (unhide HZ4).cell 2 rfl
  have q3 := (unhide HZ4).cell 3 rfl
  (try clear x0 x1 x2 x3 z0 z1 z2 y0 y0f y1 y1f y2 y2f y3 y3f q0 q1 q2 q3)
  (try clear x0 x1 x2 x3 z0 z1 z2 y0 y0f y1 y1f y2 y2f y3 y3f q0 q1 q2 q3)
  replace HX := hide ((unhide HX).oth (g' := w.heap.size + 2) (i := 0) (.int .i64 s2) (by omega))
  replace HH := hide ((unhide HH).oth (g' := w.heap.size + 2) (i := 0) (.int .i64 s2) (by omega))
  replace HY := hide (box_put (unhide HY) 0 (.int .i64 s2) (by simp))
  replace HZ4 := hide ((unhide HZ4).oth (g' := w.heap.size + 2) (i := 0) (.int .i64 s2) (by omega))
  replace HO := hide ((unhide HO).kg (grown_cel _ (w.heap.size + 2) 0 (.int .i64 s2)) (by omega))
  replace HB := hide (below_sc (p := ⟨w.heap.size + 2, 0, none⟩) (v := .int .i64 s2) (unhide HB) (by dsimp only; omega))
  replace HX := hide ((unhide HX).oth (g' := w.heap.size + 2) (i := 1) (.int .i64 l2) (by omega))
  replace HH := hide ((unhide HH).oth (g' := w.heap.size + 2) (i := 1) (.int .i64 l2) (by omega))
  replace HY := hide (box_put (unhide HY) 1 (.int .i64 l2) (by simp))
  replace HZ4 := hide ((unhide HZ4).oth (g' := w.heap.size + 2) (i := 1) (.int .i64 l2) (by omega))
  replace HO := hide ((unhide HO).kg (grown_cel _ (w.heap.size + 2) 1 (.int .i64 l2)) (by omega))
  replace HB := hide (below_sc (p := ⟨w.heap.size + 2, 1, none⟩) (v := .int .i64 l2) (unhide HB) (by dsimp only; omega))
  replace HX := hide ((unhide HX).oth (g' := w.heap.size + 2) (i := 2) (.int .i64 o2) (by omega))
  replace HH := hide ((unhide HH).oth (g' := w.heap.size + 2) (i := 2) (.int .i64 o2) (by omega))
  replace HY := hide (box_put (unhide HY) 2 (.int .i64 o2) (by simp))
  replace HZ4 := hide ((unhide HZ4).oth (g' := w.heap.size + 2) (i := 2) (.int .i64 o2) (by omega))
  replace HO := hide ((unhide HO).kg (grown_cel _ (w.heap.size + 2) 2 (.int .i64 o2)) (by omega))
  replace HB := hide (below_sc (p := ⟨w.heap.size + 2, 2, none⟩) (v := .int .i64 o2) (unhide HB) (by dsimp only; omega))
  replace HX := hide ((unhide HX).oth (g' := w.heap.size + 2) (i := 3) (.slice b zs.length j) (by omega))
  replace HH := hide ((unhide HH).oth (g' := w.heap.size + 2) (i := 3) (.slice b zs.length j) (by omega))
  replace HY := hide (box_put (unhide HY) 3 (.slice b zs.length j) (by simp))
  replace HZ4 := hide ((unhide HZ4).oth (g' := w.heap.size + 2) (i := 3) (.slice b zs.length j) (by omega))
  replace HO := hide ((unhide HO).kg (grown_cel _ (w.heap.size + 2) 3 (.slice b zs.length j)) (by omega))
  replace HB := hide (below_sc (p := ⟨w.heap.size + 2, 3, none⟩) (v := .slice b zs.length j) (unhide HB) (by dsimp only; omega))
  replace HY := hide (show Box _ (w.heap.size + 2) [.int .i64 s2, .int .i64 l2, .int .i64 o2, .slice b zs.length j] from unhide HY)
  have x0 := (unhide HX).cell 0 rfl
  have x1 := (unhide HX).cell 1 rfl
  have x2 := (unhide HX).cell 2 rfl
  have x3 := (unhide HX).cell 3 rfl
  have z0 := (unhide HH).cell 0 rfl
  have z1 := (unhide HH).cell 1 rfl
  have z2 := (unhide HH).cell 2 rfl
  have y0 := (unhide HY).cell 0 rfl
  have y1 := (unhide HY).cell 1 rfl
  have y2 := (unhide HY).cell 2 rfl
  have y3 := (unhide HY).cell 3 rfl
  have q0 := (unhide HZ4).cell 0 rfl
  have q1 := (unhide HZ4).cell 1 rfl
  have q2 := (unhide HZ4).cell 2 rfl
  have q3 := (unhide HZ4).cell 3 rfl
  exact bodyPost_ret (v := .tuple #[.agg #[.int .i64 s2, .int .i64 l2, .int .i64 o2, .slice b zs.length j], .bool true]) (results_ct Try.results56 rfl (load_gat (unhide HY))) rfl (by rw [hg.1, hg.2.1, hg.2.2]; exact ⟨_, rfl, (unhide HO).mono (by omega), unhide HB⟩)
end Go.Proofs.Ytmlbphmbffkdnaa
