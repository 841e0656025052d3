/-
  Texts of the proof, what it needs of them: Hedc, Gsy, Gsz.
-/
import Derived.Test.YtmlbphmbffkdnaaGreatGh07
import Derived.Test.YtmlbphmbffkdnaaGreatGh15
import Derived.Test.YtmlbphmbffkdnaaGreatGh22
import Derived.Test.YtmlbphmbffkdnaaGreatGh23
import Derived.Test.YtmlbphmbffkdnaaGreatGh33
import Derived.Test.YtmlbphmbffkdnaaGreatGh34
import Derived.Test.YtmlbphmbffkdnaaGreatGh35
namespace Go.Proofs.YtmlbphmbffkdnaaGreat
open Go.RowKit
set_option linter.unusedVariables false
set_option maxRecDepth 100000

/-- what shows that a head's entries begin with this one's -/
def hedGrown (a b a' b' : Int) (ps : List Int) : Bool := if a = 0 then decide (ps.length = 0) else Tm.conCheck a b a' b' ps
def hedFollows (a b c a' b' c' : Int) (ps : List Int) : Bool := hedOk a b c && (hedOk a' b' c' && (decide (a ≤ a') && (hedGrown a b a' b' ps && (decide (a < a') || decide ((a, b, c) = (a', b', c'))))))
theorem hf1 {a b c a' b' c' : Int} {ps : List Int} (h : hedOk a b c = false) : hedFollows a b c a' b' c' ps = false := by unfold hedFollows; rw [h]; rfl
end Go.Proofs.YtmlbphmbffkdnaaGreat
namespace Go.Proofs.YtmlbphmbffkdnaaGreat
open Go.RowKit
set_option linter.unusedVariables false
set_option maxRecDepth 100000

def GTold2 (w : World) (h : Tm.Hed) (zs : List Int) (b : Bool) (e : Ending) (w' : World) : Prop := ∃ v, e = .returned (.tuple #[gatV h.1 h.2.1 h.2.2 v, .bool b]) ∧ Own w' w.heap.size v zs ∧ Below w.heap.size w w'
set_option maxHeartbeats 4000000 in
theorem c36 (s l o : Int) (zs : List Int) (ao : Option Addr) (n cap : Nat) (w : World) (hn : zs.length = n) (hm : n ≤ 1048576) (hz : ao = none → cap = 0) (hr : Row w ao zs) : Calls Tryz.prog 36 #[gatV s l o (.slice ao n cap)] w (GTold w s l o zs) := by
  have HR := hide hr
  have HZ := hide hz
  have HN := hide hn
  clear hr hz hn
  have HB := hide (Below.refl w.heap.size w)
  replace HB := hide (below_al (o := .cells #[.int .i64 s, .int .i64 l, .int .i64 o, .slice ao n cap] 27) (unhide HB))
  replace HR := hide ((unhide HR).bel (below_a (.cells #[.int .i64 s, .int .i64 l, .int .i64 o, .slice ao n cap] 27)))
  have HX := hide (box_new w [.int .i64 s, .int .i64 l, .int .i64 o, .slice ao n cap] 27 (by simp [Value.oneCell']))
  (try simp only [World.size_alloc] at HX)
  replace HB := hide (below_al (o := .cells #[.int .i64 0, .int .i64 0, .int .i64 0, .slice none 0 0] 27) (unhide HB))
  replace HR := hide ((unhide HR).bel (below_a (.cells #[.int .i64 0, .int .i64 0, .int .i64 0, .slice none 0 0] 27)))
  replace HX := hide ((unhide HX).bel (below_a (.cells #[.int .i64 0, .int .i64 0, .int .i64 0, .slice none 0 0] 27)))
  have HY := hide (box_new (w.alloc (.cells #[.int .i64 s, .int .i64 l, .int .i64 o, .slice ao n cap] 27)) [.int .i64 0, .int .i64 0, .int .i64 0, .slice none 0 0] 27 (by simp [Value.oneCell']))
  (try simp only [World.size_alloc] at HY)
  have x0 := (unhide HX).cell 0 rfl
  have x1 := (unhide HX).cell 1 rfl
  have x2 := (unhide HX).cell 2 rfl
  have x3 := (unhide HX).cell 3 rfl
  have y0 := (unhide HY).cell 0 rfl
  have y1 := (unhide HY).cell 1 rfl
  have y2 := (unhide HY).cell 2 rfl
  have y3 := (unhide HY).cell 3 rfl
  go_enter Tryz.func36, Tryz.ntmps36
  go_wp2_with fail
  (try clear x0 x1 x2 x3 y0 y1 y2 y3)
  refine (c76 zs ao n cap _ (unhide HN) hm (unhide HZ) (unhide HR)).mono ?_
  rintro e w1 ⟨v, rfl, ho, hb⟩
  obtain ⟨b, j, rfl⟩ := live_form ho.2
  rw [unhide HN]
  replace HB := hide (below_tr (unhide HB) hb)
  replace HR := hide ((unhide HR).bel hb)
  replace HX := hide ((unhide HX).bel hb)
  replace HY := hide ((unhide HY).bel hb)
  have HO := hide ho
  clear hb ho
  (try simp only [World.size_alloc] at HO)
  have x0 := (unhide HX).cell 0 rfl
  have x0f := (unhide HX).frozen 0 rfl
  have x1 := (unhide HX).cell 1 rfl
  have x1f := (unhide HX).frozen 1 rfl
  have x2 := (unhide HX).cell 2 rfl
  have x2f := (unhide HX).frozen 2 rfl
  have x3 := (unhide HX).cell 3 rfl
  have x3f := (unhide HX).frozen 3 rfl
  have y0 := (unhide HY).cell 0 rfl
  have y0f := (unhide HY).frozen 0 rfl
  have y1 := (unhide HY).cell 1 rfl
  have y1f := (unhide HY).frozen 1 rfl
  have y2 := (unhide HY).cell 2 rfl
  have y2f := (unhide HY).frozen 2 rfl
  have y3 := (unhide HY).cell 3 rfl
  have y3f := (unhide HY).frozen 3 rfl
  go_wp2_with fail
  (try clear x0 x0f x1 x1f x2 x2f x3 x3f y0 y0f y1 y1f y2 y2f y3 y3f)
  (try clear x0 x0f x1 x1f x2 x2f x3 x3f y0 y0f y1 y1f y2 y2f y3 y3f)
  replace HX := hide (box_put (unhide HX) 3 (.slice b n j) (by simp))
  replace HY := hide ((unhide HY).oth (g' := w.heap.size) (i := 3) (.slice b n j) (by omega))
  replace HO := hide ((unhide HO).kg (grown_cel _ (w.heap.size) 3 (.slice b n j)) (by omega))
  replace HB := hide (below_sc (p := ⟨w.heap.size, 3, none⟩) (v := .slice b n j) (unhide HB) (by dsimp only; omega))
  replace HX := hide (show Box _ (w.heap.size) [.int .i64 s, .int .i64 l, .int .i64 o, .slice b n j] from unhide HX)
  have x0 := (unhide HX).cell 0 rfl
  have x1 := (unhide HX).cell 1 rfl
  have x2 := (unhide HX).cell 2 rfl
  have x3 := (unhide HX).cell 3 rfl
  have y0 := (unhide HY).cell 0 rfl
  have y0f := (unhide HY).frozen 0 rfl
  have y1 := (unhide HY).cell 1 rfl
  have y1f := (unhide HY).frozen 1 rfl
  have y2 := (unhide HY).cell 2 rfl
  have y2f := (unhide HY).frozen 2 rfl
  have y3 := (unhide HY).cell 3 rfl
  have y3f := (unhide HY).frozen 3 rfl
  (try clear x0 x1 x2 x3 y0 y0f y1 y1f y2 y2f y3 y3f)
  replace HX := hide ((unhide HX).oth (g' := w.heap.size + 1) (i := 0) (.int .i64 s) (by omega))
  replace HY := hide (box_put (unhide HY) 0 (.int .i64 s) (by simp))
  replace HO := hide ((unhide HO).kg (grown_cel _ (w.heap.size + 1) 0 (.int .i64 s)) (by omega))
  replace HB := hide (below_sc (p := ⟨w.heap.size + 1, 0, none⟩) (v := .int .i64 s) (unhide HB) (by dsimp only; omega))
  replace HX := hide ((unhide HX).oth (g' := w.heap.size + 1) (i := 1) (.int .i64 l) (by omega))
  replace HY := hide (box_put (unhide HY) 1 (.int .i64 l) (by simp))
  replace HO := hide ((unhide HO).kg (grown_cel _ (w.heap.size + 1) 1 (.int .i64 l)) (by omega))
  replace HB := hide (below_sc (p := ⟨w.heap.size + 1, 1, none⟩) (v := .int .i64 l) (unhide HB) (by dsimp only; omega))
  replace HX := hide ((unhide HX).oth (g' := w.heap.size + 1) (i := 2) (.int .i64 o) (by omega))
  replace HY := hide (box_put (unhide HY) 2 (.int .i64 o) (by simp))
  replace HO := hide ((unhide HO).kg (grown_cel _ (w.heap.size + 1) 2 (.int .i64 o)) (by omega))
  replace HB := hide (below_sc (p := ⟨w.heap.size + 1, 2, none⟩) (v := .int .i64 o) (unhide HB) (by dsimp only; omega))
  replace HX := hide ((unhide HX).oth (g' := w.heap.size + 1) (i := 3) (.slice b n j) (by omega))
  replace HY := hide (box_put (unhide HY) 3 (.slice b n j) (by simp))
  replace HO := hide ((unhide HO).kg (grown_cel _ (w.heap.size + 1) 3 (.slice b n j)) (by omega))
  replace HB := hide (below_sc (p := ⟨w.heap.size + 1, 3, none⟩) (v := .slice b n j) (unhide HB) (by dsimp only; omega))
  replace HY := hide (show Box _ (w.heap.size + 1) [.int .i64 s, .int .i64 l, .int .i64 o, .slice b n j] from unhide HY)
  have x0 := (unhide HX).cell 0 rfl
  have x1 := (unhide HX).cell 1 rfl
  have x2 := (unhide HX).cell 2 rfl
  have x3 := (unhide HX).cell 3 rfl
  have y0 := (unhide HY).cell 0 rfl
  have y1 := (unhide HY).cell 1 rfl
  have y2 := (unhide HY).cell 2 rfl
  have y3 := (unhide HY).cell 3 rfl
  exact bodyPost_ret (v := gatV s l o (.slice b n j)) (results_c Tryz.results36 rfl (load_gat (unhide HY))) rfl ⟨_, rfl, (by have h := unhide HO; rw [unhide HN] at h; exact h.mono (by omega)), unhide HB⟩
end Go.Proofs.YtmlbphmbffkdnaaGreat
namespace Go.Proofs.YtmlbphmbffkdnaaGreat
open Go.RowKit
set_option linter.unusedVariables false
set_option maxRecDepth 100000

set_option maxHeartbeats 4000000 in
theorem c39 (s l o : Int) (zs : List Int) (ao : Option Addr) (n cap : Nat) (w : World) (hn : zs.length = n) (hm : n ≤ 1048576) (hz : ao = none → cap = 0) (hr : Row w ao zs) : Calls Tryz.prog 39 #[gatV s l o (.slice ao n cap)] w (GTold w s l o zs) := by
  subst hn
  have HR := hide hr
  clear hr hz
  have HB := hide (Below.refl w.heap.size w)
  replace HB := hide (below_al (o := .cells #[.int .i64 s, .int .i64 l, .int .i64 o, .slice ao zs.length cap] 27) (unhide HB))
  replace HR := hide ((unhide HR).bel (below_a (.cells #[.int .i64 s, .int .i64 l, .int .i64 o, .slice ao zs.length cap] 27)))
  have HX := hide (box_new w [.int .i64 s, .int .i64 l, .int .i64 o, .slice ao zs.length cap] 27 (by simp [Value.oneCell']))
  (try simp only [World.size_alloc] at HX)
  replace HB := hide (below_al (o := .cells #[.int .i64 0, .int .i64 0, .int .i64 0, .slice none 0 0] 27) (unhide HB))
  replace HR := hide ((unhide HR).bel (below_a (.cells #[.int .i64 0, .int .i64 0, .int .i64 0, .slice none 0 0] 27)))
  replace HX := hide ((unhide HX).bel (below_a (.cells #[.int .i64 0, .int .i64 0, .int .i64 0, .slice none 0 0] 27)))
  have HY := hide (box_new (w.alloc (.cells #[.int .i64 s, .int .i64 l, .int .i64 o, .slice ao zs.length cap] 27)) [.int .i64 0, .int .i64 0, .int .i64 0, .slice none 0 0] 27 (by simp [Value.oneCell']))
  (try simp only [World.size_alloc] at HY)
  have x0 := (unhide HX).cell 0 rfl
  have x1 := (unhide HX).cell 1 rfl
  have x2 := (unhide HX).cell 2 rfl
  have x3 := (unhide HX).cell 3 rfl
  have y0 := (unhide HY).cell 0 rfl
  have y1 := (unhide HY).cell 1 rfl
  have y2 := (unhide HY).cell 2 rfl
  have y3 := (unhide HY).cell 3 rfl
  go_enter Tryz.func39, Tryz.ntmps39
  go_wp2_with fail
  (try clear x0 x1 x2 x3 y0 y1 y2 y3)
  have hbs : w.heap.size + 1 < ((w.alloc (.cells #[.int .i64 s, .int .i64 l, .int .i64 o, .slice ao zs.length cap] 27)).alloc (.cells #[.int .i64 0, .int .i64 0, .int .i64 0, .slice none 0 0] 27)).heap.size := by simp
  have HBS := hide hbs
  generalize (w.alloc (.cells #[.int .i64 s, .int .i64 l, .int .i64 o, .slice ao zs.length cap] 27)).alloc (.cells #[.int .i64 0, .int .i64 0, .int .i64 0, .slice none 0 0] 27) = W at *
  refine wp_region_W (fun w' => Box w' w.heap.size [.int .i64 s, .int .i64 l, .int .i64 o, .slice ao zs.length cap]) (by kernel_rfl) ((unhide HX).bel (below_drew W)) (fun hHeld => ?_)
  refine tkW 0 (some 3) (v := ?_) ?_ ?_
  rotate_left
  · intro w hSw
    first | (go_simp; done) | (go_simp; with_reducible rfl) | with_reducible rfl | rfl
  try simp only [Act.put, List.setIfInBounds_toArray, List.set_cons_zero, List.set_cons_succ]
  refine tkW 1 (some 4) (v := ?_) ?_ ?_
  rotate_left
  · intro w hSw
    have x0 := hSw.cell 0 rfl; have x1 := hSw.cell 1 rfl; have x2 := hSw.cell 2 rfl; have x3 := hSw.cell 3 rfl
    first | (go_simp; done) | (go_simp; with_reducible rfl) | with_reducible rfl | rfl
  try simp only [Act.put, List.setIfInBounds_toArray, List.set_cons_zero, List.set_cons_succ]
  refine tkW 3 (some 6) (v := ?_) ?_ ?_
  rotate_left
  · intro w hSw
    first | (go_simp; done) | (go_simp; with_reducible rfl) | with_reducible rfl | rfl
  try simp only [Act.put, List.setIfInBounds_toArray, List.set_cons_zero, List.set_cons_succ]
  refine tkW 4 (some 7) (v := ?_) ?_ ?_
  rotate_left
  · intro w hSw
    have x0 := hSw.cell 0 rfl; have x1 := hSw.cell 1 rfl; have x2 := hSw.cell 2 rfl; have x3 := hSw.cell 3 rfl
    first | (go_simp; done) | (go_simp; with_reducible rfl) | with_reducible rfl | rfl
  try simp only [Act.put, List.setIfInBounds_toArray, List.set_cons_zero, List.set_cons_succ]
  have HD := below_drew W
  generalize W.drew = V0 at *
  refine oneW 2 (o := { dst := some 5, op := _, type := _, pos := _, after := _, guard := _ }) (fun K hK => ?_)
  go_simp
  refine hK.out _ _ (hHeld.bel (below_a _)) (fun hS1 => ?_)
  clear hK K
  try simp only [Act.put, List.setIfInBounds_toArray, List.set_cons_zero, List.set_cons_succ]
  have ho := World.ownsRow_lit (base := W.heap.size) (e := 3) (size := 1) V0 #[] 0 HD.size (by decide) rfl
  replace HD := below_then HD (below_a (.cells #[] 3))
  generalize V0.alloc (.cells #[] 3) = V1 at *
  generalize (some (⟨V0.heap.size, 0, none⟩ : Addr)) = a1 at *
  refine oneW 5 (o := { dst := some 8, op := _, type := _, pos := _, after := _, guard := _ }) (fun K hK => ?_)
  refine step_copy (by rfl) _ _ 25 (by rfl) W.heap.size 3 1 8 elI (.slice a1 0 0) (by rfl) ho ao zs.length cap (zs.map (Value.int .i64)) (by rfl) (srcI ((unhide HR).bel HD)) (by unfold maxLen; omega) (by omega) HD.size ?_
  intro v' w2 ho2 hg hv
  have hb2 : Below W.heap.size W w2 := HD.grown hg HD.size (fun k hk => (ho.lt k hk).1)
  obtain ⟨b, j, rfl⟩ := live_form ho2
  refine hK.out _ _ ((unhide HX).bel hb2) (fun hS2 => ?_)
  clear hK K hg hv ho HD hS1
  try simp only [Act.put, List.setIfInBounds_toArray, List.set_cons_zero, List.set_cons_succ]
  refine tkW 6 (some 9) (v := ?_) ?_ ?_
  rotate_left
  · intro w hSw
    first | (go_simp; done) | (go_simp; with_reducible rfl) | with_reducible rfl | rfl
  try simp only [Act.put, List.setIfInBounds_toArray, List.set_cons_zero, List.set_cons_succ]
  replace HB := hide (below_tr (unhide HB) hb2)
  replace HX := hide ((unhide HX).bel hb2)
  replace HY := hide ((unhide HY).bel hb2)
  have HO : Hid (Own w2 W.heap.size (.slice b zs.length j) zs) := ⟨(unhide HR).1, ho2⟩
  clear hb2 ho2 hHeld
  have y0 := (unhide HY).cell 0 rfl
  have y0f := (unhide HY).frozen 0 rfl
  have y1 := (unhide HY).cell 1 rfl
  have y1f := (unhide HY).frozen 1 rfl
  have y2 := (unhide HY).cell 2 rfl
  have y2f := (unhide HY).frozen 2 rfl
  have y3 := (unhide HY).cell 3 rfl
  have y3f := (unhide HY).frozen 3 rfl
  refine oneW 7 (o := { dst := none, op := _, type := _, pos := _, after := _, guard := _ }) (fun K hK => ?_)
  go_simp
  (try clear y0 y0f y1 y1f y2 y2f y3 y3f)
  replace HX := hide ((unhide HX).oth (g' := w.heap.size + 1) (i := 0) (.int .i64 s) (by omega))
  replace HY := hide (box_put (unhide HY) 0 (.int .i64 s) (by simp))
  replace HO := hide ((unhide HO).kg (grown_cel _ (w.heap.size + 1) 0 (.int .i64 s)) (by omega))
  replace HB := hide (below_sc (p := ⟨w.heap.size + 1, 0, none⟩) (v := .int .i64 s) (unhide HB) (by dsimp only; omega))
  replace HX := hide ((unhide HX).oth (g' := w.heap.size + 1) (i := 1) (.int .i64 l) (by omega))
  replace HY := hide (box_put (unhide HY) 1 (.int .i64 l) (by simp))
  replace HO := hide ((unhide HO).kg (grown_cel _ (w.heap.size + 1) 1 (.int .i64 l)) (by omega))
  replace HB := hide (below_sc (p := ⟨w.heap.size + 1, 1, none⟩) (v := .int .i64 l) (unhide HB) (by dsimp only; omega))
  replace HX := hide ((unhide HX).oth (g' := w.heap.size + 1) (i := 2) (.int .i64 o) (by omega))
  replace HY := hide (box_put (unhide HY) 2 (.int .i64 o) (by simp))
  replace HO := hide ((unhide HO).kg (grown_cel _ (w.heap.size + 1) 2 (.int .i64 o)) (by omega))
  replace HB := hide (below_sc (p := ⟨w.heap.size + 1, 2, none⟩) (v := .int .i64 o) (unhide HB) (by dsimp only; omega))
  replace HX := hide ((unhide HX).oth (g' := w.heap.size + 1) (i := 3) (.slice b zs.length j) (by omega))
  replace HY := hide (box_put (unhide HY) 3 (.slice b zs.length j) (by simp))
  replace HO := hide ((unhide HO).kg (grown_cel _ (w.heap.size + 1) 3 (.slice b zs.length j)) (by omega))
  replace HB := hide (below_sc (p := ⟨w.heap.size + 1, 3, none⟩) (v := .slice b zs.length j) (unhide HB) (by dsimp only; omega))
  replace HY := hide (show Box _ (w.heap.size + 1) [.int .i64 s, .int .i64 l, .int .i64 o, .slice b zs.length j] from unhide HY)
  have y0 := (unhide HY).cell 0 rfl
  have y1 := (unhide HY).cell 1 rfl
  have y2 := (unhide HY).cell 2 rfl
  have y3 := (unhide HY).cell 3 rfl
  refine hK.out _ _ (unhide HX) (fun hS3 => ?_)
  clear hK K
  try simp only [Act.put, List.setIfInBounds_toArray, List.set_cons_zero, List.set_cons_succ]
  refine doneW ?_
  go_wp2_with fail
  exact bodyPost_ret (v := gatV s l o (.slice b zs.length j)) (results_c Tryz.results39 rfl (load_gat (unhide HY))) rfl ⟨_, rfl, (unhide HO).mono (by omega), unhide HB⟩
end Go.Proofs.YtmlbphmbffkdnaaGreat
