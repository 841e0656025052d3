/-
  The walk of how a row stands behind an entry.
-/
import Derived.Test.YtjdnengmllamcaaFits
namespace Go.Proofs.Ytjdnengmllamcaa
open Go.RowKit
set_option linter.unusedVariables false
set_option maxRecDepth 100000
theorem ta_1_1 (v : Value) (w : World) : (Instr.typeAssert (.iface 158 v) 153 158 true).run Try.prog w = .ok (.tuple #[v, .bool true]) w := by kernel_rfl
theorem ta_2_1 (v : Value) (w : World) : (Instr.typeAssert (.iface 159 v) 153 158 true).run Try.prog w = .ok (.tuple #[entV 0 0 0 0, .bool false]) w := by kernel_rfl
theorem ta_2_2 (v : Value) (w : World) : (Instr.typeAssert (.iface 159 v) 153 159 true).run Try.prog w = .ok (.tuple #[v, .bool true]) w := by kernel_rfl
theorem ta_3_1 (v : Value) (w : World) : (Instr.typeAssert (.iface 160 v) 153 158 true).run Try.prog w = .ok (.tuple #[entV 0 0 0 0, .bool false]) w := by kernel_rfl
theorem ta_3_2 (v : Value) (w : World) : (Instr.typeAssert (.iface 160 v) 153 159 true).run Try.prog w = .ok (.tuple #[entV 0 0 0 0, .bool false]) w := by kernel_rfl
theorem ta_3_3 (v : Value) (w : World) : (Instr.typeAssert (.iface 160 v) 153 160 true).run Try.prog w = .ok (.tuple #[v, .bool true]) w := by kernel_rfl

set_option maxHeartbeats 2000000 in
theorem behind_1 (a c : Int) (d : Bool) (t u p : Int) (w : World) : Calls Try.prog 152 #[rowV a c d, entV 1 t u p] w fun e w' => e = .returned (rowV u p false) ∧ Below w.heap.size w w' := by
  have hX := ((box_new w [.int .i64 a, .int .i64 c, .bool d] 47 (by simp [Value.oneCell'])).alloc (.cells #[.int .i64 1, .int .i64 t, .int .i64 u, .int .i64 p] 24)).alloc (.cells #[.int .i64 0, .int .i64 0, .bool false] 47)
  have hR := box_new ((w.alloc (.cells #[.int .i64 a, .int .i64 c, .bool d] 47)).alloc (.cells #[.int .i64 1, .int .i64 t, .int .i64 u, .int .i64 p] 24)) [.int .i64 0, .int .i64 0, .bool false] 47 (by simp [Value.oneCell'])
  rw [show ((w.alloc (.cells #[.int .i64 a, .int .i64 c, .bool d] 47)).alloc (.cells #[.int .i64 1, .int .i64 t, .int .i64 u, .int .i64 p] 24)).heap.size = w.heap.size + 1 + 1 by simp] at hR
  have HX := hide hX
  have HR := hide hR
  have HB0 := hide (below_al (o := .cells #[.int .i64 0, .int .i64 0, .bool false] 47) (below_al (o := .cells #[.int .i64 1, .int .i64 t, .int .i64 u, .int .i64 p] 24) (below_a (w := w) (.cells #[.int .i64 a, .int .i64 c, .bool d] 47))))
  clear hX hR
  go_enter Try.func152, Try.ntmps152
  go_wp2_with fail
  refine (c166 1 t u p _).mono ?_
  rintro e w1 ⟨rfl, hb1⟩
  rw [show kindV 1 t u p = .iface 158 (entV 1 t u p) by rfl]
  have hx := ((unhide HX).below hb1).alloc (.cells #[.int .i64 1, .int .i64 t, .int .i64 u, .int .i64 p] 158)
  have hr := ((unhide HR).below hb1).alloc (.cells #[.int .i64 1, .int .i64 t, .int .i64 u, .int .i64 p] 158)
  have HB1 := hide (below_tr (unhide HB0) hb1)
  have x0 := hx.cell 0 rfl
  have x1 := hx.cell 1 rfl
  have x2 := hx.cell 2 rfl
  have f0 := hx.frozen 0 rfl
  have f2 := hx.frozen 2 rfl
  have r0 := hr.cell 0 rfl
  have r1 := hr.cell 1 rfl
  have r2 := hr.cell 2 rfl
  have q0 := hr.frozen 0 rfl
  have q1 := hr.frozen 1 rfl
  have q2 := hr.frozen 2 rfl
  clear hb1 hx hr HX HR HB0
  have t1 := ta_1_1 (entV 1 t u p)
  go_wp2_with fail
  exact bodyPost_ret (v := rowV u p false) (by simp [results, Try.results152, go_sem, r0, r1, r2]) rfl ⟨rfl, (((below_al (unhide HB1)).setCell (p := ⟨w.heap.size + 1 + 1, 0, none⟩) (by show _ ≤ w.heap.size + 1 + 1; omega) _).setCell (p := ⟨w.heap.size + 1 + 1, 1, none⟩) (by show _ ≤ w.heap.size + 1 + 1; omega) _).setCell (p := ⟨w.heap.size + 1 + 1, 2, none⟩) (by show _ ≤ w.heap.size + 1 + 1; omega) _⟩

set_option maxHeartbeats 2000000 in
theorem behind_2 (a c : Int) (d : Bool) (t u p : Int) (w : World) : Calls Try.prog 152 #[rowV a c d, entV 2 t u p] w fun e w' => e = .returned (rowV u c d) ∧ Below w.heap.size w w' := by
  have hX := ((box_new w [.int .i64 a, .int .i64 c, .bool d] 47 (by simp [Value.oneCell'])).alloc (.cells #[.int .i64 2, .int .i64 t, .int .i64 u, .int .i64 p] 24)).alloc (.cells #[.int .i64 0, .int .i64 0, .bool false] 47)
  have hR := box_new ((w.alloc (.cells #[.int .i64 a, .int .i64 c, .bool d] 47)).alloc (.cells #[.int .i64 2, .int .i64 t, .int .i64 u, .int .i64 p] 24)) [.int .i64 0, .int .i64 0, .bool false] 47 (by simp [Value.oneCell'])
  rw [show ((w.alloc (.cells #[.int .i64 a, .int .i64 c, .bool d] 47)).alloc (.cells #[.int .i64 2, .int .i64 t, .int .i64 u, .int .i64 p] 24)).heap.size = w.heap.size + 1 + 1 by simp] at hR
  have HX := hide hX
  have HR := hide hR
  have HB0 := hide (below_al (o := .cells #[.int .i64 0, .int .i64 0, .bool false] 47) (below_al (o := .cells #[.int .i64 2, .int .i64 t, .int .i64 u, .int .i64 p] 24) (below_a (w := w) (.cells #[.int .i64 a, .int .i64 c, .bool d] 47))))
  clear hX hR
  go_enter Try.func152, Try.ntmps152
  go_wp2_with fail
  refine (c166 2 t u p _).mono ?_
  rintro e w1 ⟨rfl, hb1⟩
  rw [show kindV 2 t u p = .iface 159 (entV 2 t u p) by rfl]
  have hx := ((unhide HX).below hb1).alloc (.cells #[.int .i64 2, .int .i64 t, .int .i64 u, .int .i64 p] 159)
  have hr := ((unhide HR).below hb1).alloc (.cells #[.int .i64 2, .int .i64 t, .int .i64 u, .int .i64 p] 159)
  have HB1 := hide (below_tr (unhide HB0) hb1)
  have x0 := hx.cell 0 rfl
  have x1 := hx.cell 1 rfl
  have x2 := hx.cell 2 rfl
  have f0 := hx.frozen 0 rfl
  have f2 := hx.frozen 2 rfl
  have r0 := hr.cell 0 rfl
  have r1 := hr.cell 1 rfl
  have r2 := hr.cell 2 rfl
  have q0 := hr.frozen 0 rfl
  have q1 := hr.frozen 1 rfl
  have q2 := hr.frozen 2 rfl
  clear hb1 hx hr HX HR HB0
  have t1 := ta_2_1 (entV 2 t u p)
  have t2 := ta_2_2 (entV 2 t u p)
  go_wp2_with fail
  exact bodyPost_ret (v := rowV u c d) (by simp [results, Try.results152, go_sem, r0, r1, r2]) rfl ⟨rfl, ((((below_al (unhide HB1)).setCell (p := ⟨w.heap.size, 0, none⟩) (Nat.le_refl _) _).setCell (p := ⟨w.heap.size + 1 + 1, 0, none⟩) (by show _ ≤ w.heap.size + 1 + 1; omega) _).setCell (p := ⟨w.heap.size + 1 + 1, 1, none⟩) (by show _ ≤ w.heap.size + 1 + 1; omega) _).setCell (p := ⟨w.heap.size + 1 + 1, 2, none⟩) (by show _ ≤ w.heap.size + 1 + 1; omega) _⟩

set_option maxHeartbeats 2000000 in
theorem behind_3 (a c : Int) (d : Bool) (t u p : Int) (w : World) : Calls Try.prog 152 #[rowV a c d, entV 3 t u p] w fun e w' => e = .returned (rowV a c true) ∧ Below w.heap.size w w' := by
  have hX := ((box_new w [.int .i64 a, .int .i64 c, .bool d] 47 (by simp [Value.oneCell'])).alloc (.cells #[.int .i64 3, .int .i64 t, .int .i64 u, .int .i64 p] 24)).alloc (.cells #[.int .i64 0, .int .i64 0, .bool false] 47)
  have hR := box_new ((w.alloc (.cells #[.int .i64 a, .int .i64 c, .bool d] 47)).alloc (.cells #[.int .i64 3, .int .i64 t, .int .i64 u, .int .i64 p] 24)) [.int .i64 0, .int .i64 0, .bool false] 47 (by simp [Value.oneCell'])
  rw [show ((w.alloc (.cells #[.int .i64 a, .int .i64 c, .bool d] 47)).alloc (.cells #[.int .i64 3, .int .i64 t, .int .i64 u, .int .i64 p] 24)).heap.size = w.heap.size + 1 + 1 by simp] at hR
  have HX := hide hX
  have HR := hide hR
  have HB0 := hide (below_al (o := .cells #[.int .i64 0, .int .i64 0, .bool false] 47) (below_al (o := .cells #[.int .i64 3, .int .i64 t, .int .i64 u, .int .i64 p] 24) (below_a (w := w) (.cells #[.int .i64 a, .int .i64 c, .bool d] 47))))
  clear hX hR
  go_enter Try.func152, Try.ntmps152
  go_wp2_with fail
  refine (c166 3 t u p _).mono ?_
  rintro e w1 ⟨rfl, hb1⟩
  rw [show kindV 3 t u p = .iface 160 (entV 3 t u p) by rfl]
  have hx := ((unhide HX).below hb1).alloc (.cells #[.int .i64 3, .int .i64 t, .int .i64 u, .int .i64 p] 160)
  have hr := ((unhide HR).below hb1).alloc (.cells #[.int .i64 3, .int .i64 t, .int .i64 u, .int .i64 p] 160)
  have HB1 := hide (below_tr (unhide HB0) hb1)
  have x0 := hx.cell 0 rfl
  have x1 := hx.cell 1 rfl
  have x2 := hx.cell 2 rfl
  have f0 := hx.frozen 0 rfl
  have f2 := hx.frozen 2 rfl
  have r0 := hr.cell 0 rfl
  have r1 := hr.cell 1 rfl
  have r2 := hr.cell 2 rfl
  have q0 := hr.frozen 0 rfl
  have q1 := hr.frozen 1 rfl
  have q2 := hr.frozen 2 rfl
  clear hb1 hx hr HX HR HB0
  have t1 := ta_3_1 (entV 3 t u p)
  have t2 := ta_3_2 (entV 3 t u p)
  have t3 := ta_3_3 (entV 3 t u p)
  go_wp2_with fail
  exact bodyPost_ret (v := rowV a c true) (by simp [results, Try.results152, go_sem, r0, r1, r2]) rfl ⟨rfl, ((((below_al (unhide HB1)).setCell (p := ⟨w.heap.size, 2, none⟩) (Nat.le_refl _) _).setCell (p := ⟨w.heap.size + 1 + 1, 0, none⟩) (by show _ ≤ w.heap.size + 1 + 1; omega) _).setCell (p := ⟨w.heap.size + 1 + 1, 1, none⟩) (by show _ ≤ w.heap.size + 1 + 1; omega) _).setCell (p := ⟨w.heap.size + 1 + 1, 2, none⟩) (by show _ ≤ w.heap.size + 1 + 1; omega) _⟩

def rowOf (r : Tm.Rw) : Value := rowV r.1 r.2.1 r.2.2
theorem c152 (a c : Int) (d : Bool) (k t u p : Int) (w : World) (hk : Tm.entOk (k, t, u, p) = true) : Calls Try.prog 152 #[rowV a c d, entV k t u p] w fun e w' => e = .returned (rowOf (Tm.turned (a, c, d) (k, t, u, p))) ∧ Below w.heap.size w w' := by
  rw [Tm.entOk_iff] at hk
  rcases hk.2.2.2.2 with ⟨h, -⟩ | ⟨h, -⟩ | ⟨h, -⟩ <;> (dsimp only at h; subst h)
  · exact behind_1 a c d t u p w
  · exact behind_2 a c d t u p w
  · exact behind_3 a c d t u p w
end Go.Proofs.Ytjdnengmllamcaa
