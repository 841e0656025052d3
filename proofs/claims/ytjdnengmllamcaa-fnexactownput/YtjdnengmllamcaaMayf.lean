/-
  The walk of what may follow on a row: a map, a literal, of the rules by kinds.
-/
import Derived.Test.YtjdnengmllamcaaArow
import Derived.WideMake
namespace Go.Proofs.Ytjdnengmllamcaa
open Go.RowKit
set_option linter.unusedVariables false
set_option maxRecDepth 100000

/-- a map in a block of its own -/
def Mp (w : World) (r : Nat) (es : Array MapEntry) (clock : Nat) : Prop := w.heap[r]? = some (.map es clock)
/-- the world with another map in that block -/
def putMap (w : World) (r : Nat) (es : Array MapEntry) (clock : Nat) : World := { w with heap := w.heap.setIfInBounds r (.map es clock) }
theorem run_mapUpdate_int {P : Program} (w : World) (mty kt et : TypeId) (r clock : Nat) (es : Array MapEntry) (x : Int) (val : Value) (hm : P.underlying mty = some (.map kt et)) (hk : P.underlying kt = some (.int .i64)) (hb : Mp w r es clock)
    (hf : Instr.findNow (.int .i64) (.int .i64 x) es.toList 0 = some none) :
    (Instr.mapUpdate mty (.map (some r)) (.int .i64 x) val).run P w = .ok () (putMap w r (es.push { key := .int .i64 x, val := val, born := clock }) (clock + 1)) := by
  have hc : (Instr.checkKey false 10000 kt (.int .i64 x)).run P w = .ok () w := MapKept.run_checkKey (k := .int .i64 x) hk (by simp [MapKept.IsKey]) false 9999
  simp [Instr.mapUpdate, run_underlying hm, MapKept.run_getObj_map hb, hc, MapKept.run_findKey hk hf, MapKept.run_setObj_map _ hb, Result.andThen, putMap]
theorem run_lookup_int {P : Program} (w : World) (mty kt et : TypeId) (r clock : Nat) (es : Array MapEntry) (x : Int) (i : Nat) (val : Value) (hm : P.underlying mty = some (.map kt et)) (hk : P.underlying kt = some (.int .i64)) (hb : Mp w r es clock)
    (hf : Instr.findNow (.int .i64) (.int .i64 x) es.toList 0 = some (some (i, val))) :
    (Instr.lookup mty (.map (some r)) (.int .i64 x) true).run P w = .ok (.tuple #[val, .bool true]) w := by
  have hc : (Instr.checkKey es.isEmpty 10000 kt (.int .i64 x)).run P w = .ok () w := MapKept.run_checkKey (k := .int .i64 x) hk (by simp [MapKept.IsKey]) es.isEmpty 9999
  simp [Instr.lookup, run_underlying hm, MapKept.run_getObj_map hb, hc, MapKept.run_findKey hk hf, Result.andThen]
theorem Mp.put {w : World} {r clock clock' : Nat} {es es' : Array MapEntry} (h : Mp w r es clock) : Mp (putMap w r es' clock') r es' clock' := by
  have := (Array.getElem?_eq_some_iff.1 h).1
  simp [Mp, putMap, this]
theorem grown_putMap (w : World) (r clock : Nat) (es : Array MapEntry) : w.grownBy (putMap w r es clock) (some r) := by
  refine ⟨rfl, rfl, rfl, by simp [putMap], fun k hk hr => ?_⟩
  have : r ≠ k := fun e => hr (by rw [e])
  simp [putMap, this]
theorem wpList_insert_run {P : Program} {w : World} {ops : Array Oper} {rest : List Oper} {o : Oper} {a : Act} {Q : Exit → Act → World → Prop} (hgd : o.guard = none) (x y z : Operand) (t : TypeId)
    (ho : o.op = .insert t x y z) (p u v : Value) (hx : a.eval x = p) (hy : a.eval y = u) (hz : a.eval z = v) {w' : World} (hr : (Instr.mapUpdate t p u v).run P w = .ok () w') (h : wpList P ops Q rest (a.put o.dst undef) w') : wpList P ops Q (o :: rest) a w := by
  refine wpList_plain hgd fun K hK => ?_
  unfold Oper.wp
  simp only [execOp, ho, hx, hy, hz, Sem.run_bind, hr, Result.andThen_ok, Sem.run_pure]
  exact hK _ _ h
theorem Box.kpt {W w : World} {g : Nat} {vs : List Value} {row : Option Nat} (h : Box W g vs) (hg : W.grownBy w row) (hne : some g ≠ row) : Box w g vs := fun j v hv => by
  have hc := (h j v hv).1
  have hl := World.block_lt_of_cell? W _ hc
  have hb := hg.block g hl hne
  exact ⟨(World.cell?_of_block (a := ⟨g, j, none⟩) hb).trans hc, (World.frozen?_of_block (a := ⟨g, j, none⟩) hb).trans (h j v hv).2⟩

/-- a step of the map's making -/
theorem mp_step {w v : World} {r c c' : Nat} {es es' : Array MapEntry} (h : Mp w r es c) (e : putMap w r es' c' = v) : Mp v r es' c' ∧ w.grownBy v (some r) := by
  subst e; exact ⟨h.put, grown_putMap _ _ _ _⟩
theorem wpList_lookup_run {P : Program} {w : World} {ops : Array Oper} {rest : List Oper} {o : Oper} {a : Act} {Q : Exit → Act → World → Prop} (hgd : o.guard = none) (x y : Operand) (t : TypeId) (b : Bool)
    (ho : o.op = .lookup t x y b) (p u : Value) (hx : a.eval x = p) (hy : a.eval y = u) {v : Value} {w' : World} (hr : (Instr.lookup t p u b).run P w = .ok v w') (h : wpList P ops Q rest (a.put o.dst v) w') : wpList P ops Q (o :: rest) a w := by
  refine wpList_plain hgd fun K hK => ?_
  unfold Oper.wp
  simp only [execOp, ho, hx, hy, Sem.run_bind, hr, Result.andThen_ok, Sem.run_pure]
  exact hK _ _ h
theorem grown_tr' {a b c : World} {row : Option Nat} (h1 : a.grownBy b row) (h2 : b.grownBy c row) : a.grownBy c row :=
  ⟨h2.os.trans h1.os, h2.tape.trans h1.tape, h2.output.trans h1.output, Nat.le_trans h1.size h2.size, fun k hk hr => (h2.block k (Nat.lt_of_lt_of_le hk h1.size) hr).trans (h1.block k hk hr)⟩
theorem may_1 (a c : Int) (d : Bool) (t u p : Int) : Tm.may (a, c, d) (1, t, u, p) = decide (a = 0) := by unfold Tm.may; rw [Bool.eq_iff_iff]; simp
theorem may_2 (a c : Int) (d : Bool) (t u p : Int) : Tm.may (a, c, d) (2, t, u, p) = passOk a c d u p := by
  unfold Tm.may passOk; rw [Bool.eq_iff_iff]; simp
  intro _
  exact ⟨fun ⟨h2, h3, h4⟩ => ⟨h3, h2, h4⟩, fun ⟨h2, h3, h4⟩ => ⟨h3, h2, h4⟩⟩
theorem may_3 (a c : Int) (d : Bool) (t u p : Int) : Tm.may (a, c, d) (3, t, u, p) = (decide (a = u) && !d) := by unfold Tm.may; rw [Bool.eq_iff_iff]; simp

set_option maxHeartbeats 2000000 in
theorem mayFollow_1 (a c : Int) (d : Bool) (t u p : Int) (w : World) : Calls Try.prog 151 #[rowV a c d, entV 1 t u p] w fun e w' => e = .returned (.bool (Tm.may (a, c, d) (1, t, u, p))) ∧ Below w.heap.size w w' := by
  have hmm := @run_makeMap Try.prog
  have HX0 := (box_new w [.int .i64 a, .int .i64 c, .bool d] 47 (by simp [Value.oneCell'])).alloc (.cells #[.int .i64 1, .int .i64 t, .int .i64 u, .int .i64 p] 24)
  have HY0 := box_new (w.alloc (.cells #[.int .i64 a, .int .i64 c, .bool d] 47)) [.int .i64 1, .int .i64 t, .int .i64 u, .int .i64 p] 24 (by simp [Value.oneCell'])
  rw [show (w.alloc (.cells #[.int .i64 a, .int .i64 c, .bool d] 47)).heap.size = w.heap.size + 1 by simp] at HY0
  have HX1 := hide (HX0.alloc (.map #[] 0))
  have HY1 := hide (HY0.alloc (.map #[] 0))
  have HM0 : Hid (Mp (((w.alloc (.cells #[.int .i64 a, .int .i64 c, .bool d] 47)).alloc (.cells #[.int .i64 1, .int .i64 t, .int .i64 u, .int .i64 p] 24)).alloc (.map #[] 0)) (w.heap.size + 1 + 1) #[] 0) := by
    have := heap_alloc_last ((w.alloc (.cells #[.int .i64 a, .int .i64 c, .bool d] 47)).alloc (.cells #[.int .i64 1, .int .i64 t, .int .i64 u, .int .i64 p] 24)) (.map #[] 0)
    rw [show ((w.alloc (.cells #[.int .i64 a, .int .i64 c, .bool d] 47)).alloc (.cells #[.int .i64 1, .int .i64 t, .int .i64 u, .int .i64 p] 24)).heap.size = w.heap.size + 1 + 1 by simp] at this
    exact this
  have HB0 := hide (below_al (o := .map #[] 0) (below_al (o := .cells #[.int .i64 1, .int .i64 t, .int .i64 u, .int .i64 p] 24) (below_a (w := w) (.cells #[.int .i64 a, .int .i64 c, .bool d] 47))))
  have HG0 := hide (World.grownBy.refl (((w.alloc (.cells #[.int .i64 a, .int .i64 c, .bool d] 47)).alloc (.cells #[.int .i64 1, .int .i64 t, .int .i64 u, .int .i64 p] 24)).alloc (.map #[] 0)) (some (w.heap.size + 1 + 1)))
  clear HX0 HY0
  go_enter Try.func151, Try.ntmps151
  go_wp2_with (first | (refine wpList_insert_run rfl _ _ _ 156 rfl _ _ _ rfl rfl rfl (run_mapUpdate_int _ _ _ _ _ _ _ _ _ Try.underlying156 Try.underlying3 (unhide HM2) rfl) ?_; generalize hgn : putMap _ _ _ _ = v3; have hs := mp_step (unhide HM2) hgn; clear hgn; have HM3 := hide hs.1; have HG3 := hide (grown_tr' (unhide HG2) hs.2); clear hs HM2 HG2; have hbx := (unhide HX1).kpt (unhide HG3) (fun e => by simp only [Option.some.injEq] at e; omega); have hby := (unhide HY1).kpt (unhide HG3) (fun e => by simp only [Option.some.injEq] at e; omega); have x0 := hbx.cell 0 rfl; have x1 := hbx.cell 1 rfl; have x2 := hbx.cell 2 rfl; have y0 := hby.cell 0 rfl; have y1 := hby.cell 1 rfl; have y2 := hby.cell 2 rfl; have y3 := hby.cell 3 rfl; clear hbx hby) | (refine wpList_insert_run rfl _ _ _ 156 rfl _ _ _ rfl rfl rfl (run_mapUpdate_int _ _ _ _ _ _ _ _ _ Try.underlying156 Try.underlying3 (unhide HM1) rfl) ?_; generalize hgn : putMap _ _ _ _ = v2; have hs := mp_step (unhide HM1) hgn; clear hgn; have HM2 := hide hs.1; have HG2 := hide (grown_tr' (unhide HG1) hs.2); clear hs HM1 HG1) | (refine wpList_insert_run rfl _ _ _ 156 rfl _ _ _ rfl rfl rfl (run_mapUpdate_int _ _ _ _ _ _ _ _ _ Try.underlying156 Try.underlying3 (unhide HM0) rfl) ?_; generalize hgn : putMap _ _ _ _ = v1; have hs := mp_step (unhide HM0) hgn; clear hgn; have HM1 := hide hs.1; have HG1 := hide (grown_tr' (unhide HG0) hs.2); clear hs HM0 HG0) | (refine wpList_lookup_run rfl _ _ 156 true rfl _ _ rfl rfl (run_lookup_int _ _ _ _ _ _ _ _ _ _ Try.underlying156 Try.underlying3 (unhide HM3) rfl) ?_))
  refine (c167 a c d 1 t u p _).mono ?_
  rintro e w2 ⟨rfl, hb2⟩
  have HB := hide (below_tr (grown_below (unhide HB0) (unhide HG3) (by intro q hq; cases hq; omega)) hb2)
  have HE := hide (may_1 a c d t u p)
  clear hb2 x0 x1 x2 y0 y1 y2 y3 HM3 HG3 HX1 HY1 HB0
  go_wp2_with fail
  go_ret
  exact ⟨ret_bool (by rw [unhide HE]), unhide HB⟩

set_option maxHeartbeats 2000000 in
theorem mayFollow_2 (a c : Int) (d : Bool) (t u p : Int) (w : World) : Calls Try.prog 151 #[rowV a c d, entV 2 t u p] w fun e w' => e = .returned (.bool (Tm.may (a, c, d) (2, t, u, p))) ∧ Below w.heap.size w w' := by
  have hmm := @run_makeMap Try.prog
  have HX0 := (box_new w [.int .i64 a, .int .i64 c, .bool d] 47 (by simp [Value.oneCell'])).alloc (.cells #[.int .i64 2, .int .i64 t, .int .i64 u, .int .i64 p] 24)
  have HY0 := box_new (w.alloc (.cells #[.int .i64 a, .int .i64 c, .bool d] 47)) [.int .i64 2, .int .i64 t, .int .i64 u, .int .i64 p] 24 (by simp [Value.oneCell'])
  rw [show (w.alloc (.cells #[.int .i64 a, .int .i64 c, .bool d] 47)).heap.size = w.heap.size + 1 by simp] at HY0
  have HX1 := hide (HX0.alloc (.map #[] 0))
  have HY1 := hide (HY0.alloc (.map #[] 0))
  have HM0 : Hid (Mp (((w.alloc (.cells #[.int .i64 a, .int .i64 c, .bool d] 47)).alloc (.cells #[.int .i64 2, .int .i64 t, .int .i64 u, .int .i64 p] 24)).alloc (.map #[] 0)) (w.heap.size + 1 + 1) #[] 0) := by
    have := heap_alloc_last ((w.alloc (.cells #[.int .i64 a, .int .i64 c, .bool d] 47)).alloc (.cells #[.int .i64 2, .int .i64 t, .int .i64 u, .int .i64 p] 24)) (.map #[] 0)
    rw [show ((w.alloc (.cells #[.int .i64 a, .int .i64 c, .bool d] 47)).alloc (.cells #[.int .i64 2, .int .i64 t, .int .i64 u, .int .i64 p] 24)).heap.size = w.heap.size + 1 + 1 by simp] at this
    exact this
  have HB0 := hide (below_al (o := .map #[] 0) (below_al (o := .cells #[.int .i64 2, .int .i64 t, .int .i64 u, .int .i64 p] 24) (below_a (w := w) (.cells #[.int .i64 a, .int .i64 c, .bool d] 47))))
  have HG0 := hide (World.grownBy.refl (((w.alloc (.cells #[.int .i64 a, .int .i64 c, .bool d] 47)).alloc (.cells #[.int .i64 2, .int .i64 t, .int .i64 u, .int .i64 p] 24)).alloc (.map #[] 0)) (some (w.heap.size + 1 + 1)))
  clear HX0 HY0
  go_enter Try.func151, Try.ntmps151
  go_wp2_with (first | (refine wpList_insert_run rfl _ _ _ 156 rfl _ _ _ rfl rfl rfl (run_mapUpdate_int _ _ _ _ _ _ _ _ _ Try.underlying156 Try.underlying3 (unhide HM2) rfl) ?_; generalize hgn : putMap _ _ _ _ = v3; have hs := mp_step (unhide HM2) hgn; clear hgn; have HM3 := hide hs.1; have HG3 := hide (grown_tr' (unhide HG2) hs.2); clear hs HM2 HG2; have hbx := (unhide HX1).kpt (unhide HG3) (fun e => by simp only [Option.some.injEq] at e; omega); have hby := (unhide HY1).kpt (unhide HG3) (fun e => by simp only [Option.some.injEq] at e; omega); have x0 := hbx.cell 0 rfl; have x1 := hbx.cell 1 rfl; have x2 := hbx.cell 2 rfl; have y0 := hby.cell 0 rfl; have y1 := hby.cell 1 rfl; have y2 := hby.cell 2 rfl; have y3 := hby.cell 3 rfl; clear hbx hby) | (refine wpList_insert_run rfl _ _ _ 156 rfl _ _ _ rfl rfl rfl (run_mapUpdate_int _ _ _ _ _ _ _ _ _ Try.underlying156 Try.underlying3 (unhide HM1) rfl) ?_; generalize hgn : putMap _ _ _ _ = v2; have hs := mp_step (unhide HM1) hgn; clear hgn; have HM2 := hide hs.1; have HG2 := hide (grown_tr' (unhide HG1) hs.2); clear hs HM1 HG1) | (refine wpList_insert_run rfl _ _ _ 156 rfl _ _ _ rfl rfl rfl (run_mapUpdate_int _ _ _ _ _ _ _ _ _ Try.underlying156 Try.underlying3 (unhide HM0) rfl) ?_; generalize hgn : putMap _ _ _ _ = v1; have hs := mp_step (unhide HM0) hgn; clear hgn; have HM1 := hide hs.1; have HG1 := hide (grown_tr' (unhide HG0) hs.2); clear hs HM0 HG0) | (refine wpList_lookup_run rfl _ _ 156 true rfl _ _ rfl rfl (run_lookup_int _ _ _ _ _ _ _ _ _ _ Try.underlying156 Try.underlying3 (unhide HM3) rfl) ?_))
  refine (c168 a c d 2 t u p _).mono ?_
  rintro e w2 ⟨rfl, hb2⟩
  have HB := hide (below_tr (grown_below (unhide HB0) (unhide HG3) (by intro q hq; cases hq; omega)) hb2)
  have HE := hide (may_2 a c d t u p)
  clear hb2 x0 x1 x2 y0 y1 y2 y3 HM3 HG3 HX1 HY1 HB0
  go_wp2_with fail
  go_ret
  exact ⟨ret_bool (by rw [unhide HE]), unhide HB⟩

set_option maxHeartbeats 2000000 in
theorem mayFollow_3 (a c : Int) (d : Bool) (t u p : Int) (w : World) : Calls Try.prog 151 #[rowV a c d, entV 3 t u p] w fun e w' => e = .returned (.bool (Tm.may (a, c, d) (3, t, u, p))) ∧ Below w.heap.size w w' := by
  have hmm := @run_makeMap Try.prog
  have HX0 := (box_new w [.int .i64 a, .int .i64 c, .bool d] 47 (by simp [Value.oneCell'])).alloc (.cells #[.int .i64 3, .int .i64 t, .int .i64 u, .int .i64 p] 24)
  have HY0 := box_new (w.alloc (.cells #[.int .i64 a, .int .i64 c, .bool d] 47)) [.int .i64 3, .int .i64 t, .int .i64 u, .int .i64 p] 24 (by simp [Value.oneCell'])
  rw [show (w.alloc (.cells #[.int .i64 a, .int .i64 c, .bool d] 47)).heap.size = w.heap.size + 1 by simp] at HY0
  have HX1 := hide (HX0.alloc (.map #[] 0))
  have HY1 := hide (HY0.alloc (.map #[] 0))
  have HM0 : Hid (Mp (((w.alloc (.cells #[.int .i64 a, .int .i64 c, .bool d] 47)).alloc (.cells #[.int .i64 3, .int .i64 t, .int .i64 u, .int .i64 p] 24)).alloc (.map #[] 0)) (w.heap.size + 1 + 1) #[] 0) := by
    have := heap_alloc_last ((w.alloc (.cells #[.int .i64 a, .int .i64 c, .bool d] 47)).alloc (.cells #[.int .i64 3, .int .i64 t, .int .i64 u, .int .i64 p] 24)) (.map #[] 0)
    rw [show ((w.alloc (.cells #[.int .i64 a, .int .i64 c, .bool d] 47)).alloc (.cells #[.int .i64 3, .int .i64 t, .int .i64 u, .int .i64 p] 24)).heap.size = w.heap.size + 1 + 1 by simp] at this
    exact this
  have HB0 := hide (below_al (o := .map #[] 0) (below_al (o := .cells #[.int .i64 3, .int .i64 t, .int .i64 u, .int .i64 p] 24) (below_a (w := w) (.cells #[.int .i64 a, .int .i64 c, .bool d] 47))))
  have HG0 := hide (World.grownBy.refl (((w.alloc (.cells #[.int .i64 a, .int .i64 c, .bool d] 47)).alloc (.cells #[.int .i64 3, .int .i64 t, .int .i64 u, .int .i64 p] 24)).alloc (.map #[] 0)) (some (w.heap.size + 1 + 1)))
  clear HX0 HY0
  go_enter Try.func151, Try.ntmps151
  go_wp2_with (first | (refine wpList_insert_run rfl _ _ _ 156 rfl _ _ _ rfl rfl rfl (run_mapUpdate_int _ _ _ _ _ _ _ _ _ Try.underlying156 Try.underlying3 (unhide HM2) rfl) ?_; generalize hgn : putMap _ _ _ _ = v3; have hs := mp_step (unhide HM2) hgn; clear hgn; have HM3 := hide hs.1; have HG3 := hide (grown_tr' (unhide HG2) hs.2); clear hs HM2 HG2; have hbx := (unhide HX1).kpt (unhide HG3) (fun e => by simp only [Option.some.injEq] at e; omega); have hby := (unhide HY1).kpt (unhide HG3) (fun e => by simp only [Option.some.injEq] at e; omega); have x0 := hbx.cell 0 rfl; have x1 := hbx.cell 1 rfl; have x2 := hbx.cell 2 rfl; have y0 := hby.cell 0 rfl; have y1 := hby.cell 1 rfl; have y2 := hby.cell 2 rfl; have y3 := hby.cell 3 rfl; clear hbx hby) | (refine wpList_insert_run rfl _ _ _ 156 rfl _ _ _ rfl rfl rfl (run_mapUpdate_int _ _ _ _ _ _ _ _ _ Try.underlying156 Try.underlying3 (unhide HM1) rfl) ?_; generalize hgn : putMap _ _ _ _ = v2; have hs := mp_step (unhide HM1) hgn; clear hgn; have HM2 := hide hs.1; have HG2 := hide (grown_tr' (unhide HG1) hs.2); clear hs HM1 HG1) | (refine wpList_insert_run rfl _ _ _ 156 rfl _ _ _ rfl rfl rfl (run_mapUpdate_int _ _ _ _ _ _ _ _ _ Try.underlying156 Try.underlying3 (unhide HM0) rfl) ?_; generalize hgn : putMap _ _ _ _ = v1; have hs := mp_step (unhide HM0) hgn; clear hgn; have HM1 := hide hs.1; have HG1 := hide (grown_tr' (unhide HG0) hs.2); clear hs HM0 HG0) | (refine wpList_lookup_run rfl _ _ 156 true rfl _ _ rfl rfl (run_lookup_int _ _ _ _ _ _ _ _ _ _ Try.underlying156 Try.underlying3 (unhide HM3) rfl) ?_))
  refine (c169 a c d 3 t u p _).mono ?_
  rintro e w2 ⟨rfl, hb2⟩
  have HB := hide (below_tr (grown_below (unhide HB0) (unhide HG3) (by intro q hq; cases hq; omega)) hb2)
  have HE := hide (may_3 a c d t u p)
  clear hb2 x0 x1 x2 y0 y1 y2 y3 HM3 HG3 HX1 HY1 HB0
  go_wp2_with fail
  go_ret
  exact ⟨ret_bool (by rw [unhide HE]), unhide HB⟩

theorem c151 (a c : Int) (d : Bool) (k t u p : Int) (w : World) (hk : Tm.entOk (k, t, u, p) = true) : Calls Try.prog 151 #[rowV a c d, entV k t u p] w fun e w' => e = .returned (.bool (Tm.may (a, c, d) (k, t, u, p))) ∧ Below w.heap.size w w' := by
  rw [Tm.entOk_iff] at hk
  rcases hk.2.2.2.2 with ⟨h, -⟩ | ⟨h, -⟩ | ⟨h, -⟩ <;> (dsimp only at h; subst h)
  · exact mayFollow_1 a c d t u p w
  · exact mayFollow_2 a c d t u p w
  · exact mayFollow_3 a c d t u p w
end Go.Proofs.Ytjdnengmllamcaa
