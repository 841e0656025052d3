/-
  Texts of the proof, what it needs of them: Gatn.
-/
import Derived.Test.YtmlbphmbffkdnaaGreatGz27
import Derived.Test.YtmlbphmbffkdnaaGreatGz30
namespace Go.Proofs.YtmlbphmbffkdnaaGreat
open Go.RowKit
set_option linter.unusedVariables false
set_option maxRecDepth 100000

set_option maxHeartbeats 4000000 in
theorem c70 (w : World) : Calls Tryz.prog 70 #[] w (GTold w (hS []) (hL []) (hO []) []) := by
  have HB := hide (Below.refl w.heap.size w)
  replace HB := hide (below_al (o := .cells #[.int .i64 0, .int .i64 0, .int .i64 0, .slice none 0 0] 27) (unhide HB))
  have HZ := hide (box_new w [.int .i64 0, .int .i64 0, .int .i64 0, .slice none 0 0] 27 (by simp [Value.oneCell']))
  (try simp only [World.size_alloc] at HZ)
  replace HB := hide (below_al (o := .cells #[] 80) (unhide HB))
  replace HZ := hide ((unhide HZ).bel (below_a (.cells #[] 80)))
  generalize hs : hS [] = s at *
  generalize hl : hL [] = l at *
  generalize ho : hO [] = o at *
  generalize hf : foldIs [] = f at *
  have HS := hide hs
  have HL := hide hl
  have HO := hide ho
  have HF := hide hf
  clear hs hl ho hf
  have z0 := (unhide HZ).cell 0 rfl
  have z0f := (unhide HZ).frozen 0 rfl
  have z1 := (unhide HZ).cell 1 rfl
  have z1f := (unhide HZ).frozen 1 rfl
  have z2 := (unhide HZ).cell 2 rfl
  have z2f := (unhide HZ).frozen 2 rfl
  have z3 := (unhide HZ).cell 3 rfl
  have z3f := (unhide HZ).frozen 3 rfl
  go_enter Tryz.func70, Tryz.ntmps70
  go_wp2_with fail
  refine (c16 [] _ 0 0 _ rfl (Nat.le_refl _) (by omega) ⟨fun e he => (by cases he), fun h => absurd rfl h⟩).mono ?_
  rintro e w1 ⟨rfl, hb⟩
  rw [unhide HS, unhide HL, unhide HO, unhide HF]
  (try clear z0 z0f z1 z1f z2 z2f z3 z3f)
  replace HB := hide (below_tr (unhide HB) hb)
  replace HZ := hide ((unhide HZ).bel hb)
  clear hb
  have z0 := (unhide HZ).cell 0 rfl
  have z0f := (unhide HZ).frozen 0 rfl
  have z1 := (unhide HZ).cell 1 rfl
  have z1f := (unhide HZ).frozen 1 rfl
  have z2 := (unhide HZ).cell 2 rfl
  have z2f := (unhide HZ).frozen 2 rfl
  have z3 := (unhide HZ).cell 3 rfl
  have z3f := (unhide HZ).frozen 3 rfl
  (try clear z0 z0f z1 z1f z2 z2f z3 z3f)
  replace HB := hide (below_al (o := .cells #[.int .i64 s, .int .i64 l, .int .i64 o] 24) (unhide HB))
  replace HZ := hide ((unhide HZ).bel (below_a (.cells #[.int .i64 s, .int .i64 l, .int .i64 o] 24)))
  have HX := hide (box_new w1 [.int .i64 s, .int .i64 l, .int .i64 o] 24 (by simp [Value.oneCell']))
  have z0 := (unhide HZ).cell 0 rfl
  have z0f := (unhide HZ).frozen 0 rfl
  have z1 := (unhide HZ).cell 1 rfl
  have z1f := (unhide HZ).frozen 1 rfl
  have z2 := (unhide HZ).cell 2 rfl
  have z2f := (unhide HZ).frozen 2 rfl
  have z3 := (unhide HZ).cell 3 rfl
  have z3f := (unhide HZ).frozen 3 rfl
  have x0 := (unhide HX).cell 0 rfl
  have x1 := (unhide HX).cell 1 rfl
  have x2 := (unhide HX).cell 2 rfl
  go_wp2_with fail
  (try clear z0 z0f z1 z1f z2 z2f z3 z3f x0 x1 x2)
  clear HX
  (try clear z0 z0f z1 z1f z2 z2f z3 z3f)
  replace HZ := hide (box_put (unhide HZ) 0 (.int .i64 s) (by simp))
  replace HB := hide (below_sc (p := ⟨w.heap.size, 0, none⟩) (v := .int .i64 s) (unhide HB) (by dsimp only; omega))
  replace HZ := hide (box_put (unhide HZ) 1 (.int .i64 l) (by simp))
  replace HB := hide (below_sc (p := ⟨w.heap.size, 1, none⟩) (v := .int .i64 l) (unhide HB) (by dsimp only; omega))
  replace HZ := hide (box_put (unhide HZ) 2 (.int .i64 o) (by simp))
  replace HB := hide (below_sc (p := ⟨w.heap.size, 2, none⟩) (v := .int .i64 o) (unhide HB) (by dsimp only; omega))
  replace HZ := hide (box_put (unhide HZ) 3 (.slice none 0 0) (by simp))
  replace HB := hide (below_sc (p := ⟨w.heap.size, 3, none⟩) (v := .slice none 0 0) (unhide HB) (by dsimp only; omega))
  replace HZ := hide (show Box _ (w.heap.size) [.int .i64 s, .int .i64 l, .int .i64 o, .slice none 0 0] from unhide HZ)
  have z0 := (unhide HZ).cell 0 rfl
  have z0f := (unhide HZ).frozen 0 rfl
  have z1 := (unhide HZ).cell 1 rfl
  have z1f := (unhide HZ).frozen 1 rfl
  have z2 := (unhide HZ).cell 2 rfl
  have z2f := (unhide HZ).frozen 2 rfl
  have z3 := (unhide HZ).cell 3 rfl
  have z3f := (unhide HZ).frozen 3 rfl
  exact bodyPost_ret (v := gatV s l o (.slice none 0 0)) (results_c Tryz.results70 rfl (load_gat (unhide HZ))) rfl ⟨_, rfl, own_none _ _ (unhide HB).size, unhide HB⟩

theorem Own.any0 {w : World} {base : Nat} {v : Value} (h : Own w base v []) : ∃ ao cap, v = .slice ao 0 cap ∧ 0 ≤ cap ∧ (ao = none → cap = 0) ∧ Row w ao [] ∧ ∀ a, ao = some a → base ≤ a.block ∧ a.block < w.heap.size := h.any
end Go.Proofs.YtmlbphmbffkdnaaGreat
