/-
  Texts of the proof, what it needs of them: Arow.
-/
import Derived.Deep.WholeRow
import Derived.Laws.CopyOwn
import Derived.Test.YtmlbphmbffkdnaaGreatGh09
import Derived.Test.YtmlbphmbffkdnaaGreatGh10
import Derived.WideMake
namespace Go.Proofs.YtmlbphmbffkdnaaGreat
open Go.RowKit
set_option linter.unusedVariables false
set_option maxRecDepth 100000

abbrev rowsV (rs : List Tm.Rw) : Value := .agg (rs.flatMap rCells).toArray
theorem flat_oneCell (rs : List Tm.Rw) : ∀ u ∈ rs.flatMap rCells, u.oneCell' = true := by
  intro u hu
  rw [List.mem_flatMap] at hu
  obtain ⟨r, -, h⟩ := hu
  simp [rCells] at h
  rcases h with rfl | rfl | rfl <;> rfl

theorem run_copy_rowS {P : Program} (w : World) (dT sT ty elem : TypeId) (size g o dLen dCap : Nat) (a : Addr) (sLen sCap : Nat) (cur : Array Value) (t : TypeId) (cs : List Value)
    (hu : P.underlying dT = some (.slice elem)) (hs : (P.info? elem).map (·.size) = some size)
    (hg : w.heap[g]? = some (.cells cur t (0, 0))) (hn : cs.length = Nat.min sLen dLen * size)
    (hsrc : ∀ j v, cs[j]? = some v → w.cell? (a.add j) = some v) (hfit : o + cs.length ≤ cur.size) (h1 : ∀ v ∈ cs, v.oneCell' = true) :
    (Builtin.copy_ #[dT, sT] ty #[.slice (some ⟨g, o, none⟩) dLen dCap, .slice (some a) sLen sCap]).run P w =
      .ok (goInt (Nat.min sLen dLen)) (w.setRow g (cur.toList.take o ++ cs ++ cur.toList.drop (o + cs.length)).toArray) := by
  have hl := run_loadCells_list (P := P) w a cs hsrc
  have hst := run_storeCells_at P g o t cs 0 cur w hg (by simpa using hfit) h1
  rw [hn] at hl
  cases hq : P.info? elem with
  | none => simp [hq] at hs
  | some i =>
    have hi : i.size = size := by simpa [hq] using hs
    simp [Builtin.copy_, run_underlying hu, Builtin.lenOf, Builtin.firstCells, sizeOf, typeInfo, hq, hi, hl, hst]
theorem wpList_copy_rowS {P : Program} {w : World} {ops : Array Oper} {rest : List Oper} {o : Oper} {a : Act} {Q : Exit → Act → World → Prop} (hgd : o.guard = none) (d s : Operand) (dT sT : TypeId)
    (ho : o.op = .call { callee := .builtin .copy, args := #[d, s], argTypes := #[dT, sT] }) (elem : TypeId) (size : Nat) (hu : P.underlying dT = some (.slice elem)) (hsz : (P.info? elem).map (·.size) = some size)
    (g off dLen dCap : Nat) (ad : Addr) (sLen sCap : Nat) (hd : a.eval d = .slice (some ⟨g, off, none⟩) dLen dCap) (hs : a.eval s = .slice (some ad) sLen sCap)
    (cur : Array Value) (t : TypeId) (hg : w.heap[g]? = some (.cells cur t (0, 0))) (cs : List Value) (hn : cs.length = Nat.min sLen dLen * size)
    (hsrc : ∀ j v, cs[j]? = some v → w.cell? (ad.add j) = some v) (hfit : off + cs.length ≤ cur.size) (h1 : ∀ v ∈ cs, v.oneCell' = true)
    (h : wpList P ops Q rest (a.put o.dst (goInt (Nat.min sLen dLen))) (w.setRow g (cur.toList.take off ++ cs ++ cur.toList.drop (off + cs.length)).toArray)) : wpList P ops Q (o :: rest) a w := by
  refine wpList_plain hgd fun K hK => ?_
  have hrun := run_copy_rowS (P := P) w dT sT o.type elem size g off dLen dCap ad sLen sCap cur t cs hu hsz hg hn hsrc hfit h1
  unfold Oper.wp
  simp only [execOp, ho, resolve, invoke, builtin, Sem.run_bind, Sem.run_pure, Result.andThen_ok, List.map_toArray, List.map_cons, List.map_nil, hd, hs, hrun]
  exact hK _ _ h
theorem wpList_load_run {P : Program} {w : World} {ops : Array Oper} {rest : List Oper} {o : Oper} {a : Act} {Q : Exit → Act → World → Prop} (hgd : o.guard = none) (x : Operand) (t : TypeId)
    (ho : o.op = .load t x) (p : Value) (hx : a.eval x = p) {v : Value} {w' : World} (hr : (Instr.loadAt t p).run P w = .ok v w') (h : wpList P ops Q rest (a.put o.dst v) w') : wpList P ops Q (o :: rest) a w := by
  refine wpList_plain hgd fun K hK => ?_
  unfold Oper.wp
  simp only [execOp, ho, hx, Sem.run_bind, hr, Result.andThen_ok, Sem.run_pure]
  exact hK _ _ h
theorem wpList_load_runG {P : Program} {w : World} {ops : Array Oper} {rest : List Oper} {o : Oper} {a : Act} {Q : Exit → Act → World → Prop} (hw : Region.wanted o (yielded ops a.tmps) = true) (x : Operand) (t : TypeId)
    (ho : o.op = .load t x) (p : Value) (hx : a.eval x = p) {v : Value} {w' : World} (hr : (Instr.loadAt t p).run P w = .ok v w') (h : wpList P ops Q rest (a.put o.dst v) w') : wpList P ops Q (o :: rest) a w := by
  refine wpList_step fun K hK => ?_
  rw [if_pos hw]
  unfold Oper.wp
  simp only [execOp, ho, hx, Sem.run_bind, hr, Result.andThen_ok, Sem.run_pure]
  exact hK _ _ h
theorem wpList_store_run {P : Program} {w : World} {ops : Array Oper} {rest : List Oper} {o : Oper} {a : Act} {Q : Exit → Act → World → Prop} (hgd : o.guard = none) (x y : Operand) (t : TypeId)
    (ho : o.op = .store t x y) (p u : Value) (hx : a.eval x = p) (hy : a.eval y = u) {w' : World} (hr : (Instr.storeAt t p u).run P w = .ok () w') (h : wpList P ops Q rest (a.put o.dst undef) w') : wpList P ops Q (o :: rest) a w := by
  refine wpList_plain hgd fun K hK => ?_
  unfold Oper.wp
  simp only [execOp, ho, hx, hy, Sem.run_bind, hr, Result.andThen_ok, Sem.run_pure]
  exact hK _ _ h

/-- an array of rows in a block of its own -/
def Arr (w : World) (g : Nat) (rs : List Tm.Rw) : Prop := w.heap[g]? = some (.cells (rs.flatMap rCells).toArray 78 (0, 0))
theorem Arr.lt {w : World} {g : Nat} {rs : List Tm.Rw} (h : Arr w g rs) : g < w.heap.size := (Array.getElem?_eq_some_iff.1 h).1
theorem Arr.bel {w w' : World} {g : Nat} {rs : List Tm.Rw} (h : Arr w g rs) (hb : Below w.heap.size w w') : Arr w' g rs := (hb.block g h.lt).trans h
theorem Arr.alloc {w : World} {g : Nat} {rs : List Tm.Rw} (h : Arr w g rs) (o : Obj) : Arr (w.alloc o) g rs := h.bel (below_a _)
theorem arr_new (w : World) (rs : List Tm.Rw) : Arr (w.alloc (.cells (rs.flatMap rCells).toArray 78)) w.heap.size rs := heap_alloc_last w _
theorem Arr.set {w : World} {g : Nat} {rs : List Tm.Rw} (h : Arr w g rs) (rs' : List Tm.Rw) : Arr (w.setRow g (rs'.flatMap rCells).toArray) g rs' := setRow_heap w g _ _ _ _ h
theorem Arr.oth {w : World} {g k : Nat} {rs : List Tm.Rw} (h : Arr w g rs) (hne : g ≠ k) (c : Array Value) : Arr (w.setRow k c) g rs := (setRow_other w k g c hne).trans h
theorem below_row {A w : World} {g : Nat} (h : Below A.heap.size A w) (hg : A.heap.size ≤ g) (c : Array Value) : Below A.heap.size A (w.setRow g c) := below_setRow h hg c
theorem rows_size {rs : List Tm.Rw} (h : rs.length = 8) : (rs.flatMap rCells).toArray.size = 24 := by simp [flat_len rCells 3 rCells_len, h]
theorem Tryz.infoA : (Tryz.prog.info? 78).map (·.size) = some 24 := by kernel_rfl
theorem Tryz.infoRs : (Tryz.prog.info? 29).map (·.size) = some 3 := by kernel_rfl
theorem Arr.load {w : World} {g : Nat} {rs : List Tm.Rw} (h : Arr w g rs) (hl : rs.length = 8) : (Instr.loadAt 78 (.pointer (some ⟨g, 0, none⟩))).run Tryz.prog w = .ok (rowsV rs) w := by
  simp only [Instr.loadAt, Instr.sureAddr, Sem.run_bind, Sem.run_pure, Result.andThen]
  exact run_loadVar_row (P := Tryz.prog) w g _ _ _ _ _ h Tryz.underlying78 rfl (by rw [rows_size hl]; exact Tryz.infoA)
theorem Arr.loadVar {w : World} {g : Nat} {rs : List Tm.Rw} (h : Arr w g rs) (hl : rs.length = 8) : (Go.loadVar 78 ⟨g, 0, none⟩).run Tryz.prog w = .ok (rowsV rs) w :=
  run_loadVar_row (P := Tryz.prog) w g _ _ _ _ _ h Tryz.underlying78 rfl (by rw [rows_size hl]; exact Tryz.infoA)
theorem Arr.store {w : World} {g : Nat} {rs rs' : List Tm.Rw} (h : Arr w g rs) (hl : rs.length = 8) (hl' : rs'.length = 8) : (Instr.storeAt 78 (.pointer (some ⟨g, 0, none⟩)) (rowsV rs')).run Tryz.prog w = .ok () (w.setRow g (rs'.flatMap rCells).toArray) := by
  simp only [Instr.storeAt, Instr.sureAddr, Sem.run_bind, Sem.run_pure, Result.andThen]
  exact run_storeVar_row w g _ _ _ _ h (by rw [rows_size hl']; exact Tryz.infoA) (by rw [rows_size hl, rows_size hl']) (Array.all_eq_true_iff_forall_mem.2 (fun v hv => flat_oneCell rs' v (by simpa using hv)))
theorem rrow_src {w : World} {a : Addr} {rs : List Tm.Rw} (h : RRow w (some a) rs) : ∀ (j : Nat) (u : Value), (rs.flatMap rCells)[j]? = some u → w.cell? (a.add j) = some u := by
  intro j u hj
  obtain ⟨b, off, e, hc⟩ := h.2 (by intro e; subst e; simp at hj)
  cases e
  have e : (Addr.add ⟨b, off, none⟩ j) = ⟨b, off + j, none⟩ := by unfold Addr.add; split <;> simp_all
  rw [e]; exact hc j u hj
theorem rrow_some {w : World} {ao : Option Addr} {rs : List Tm.Rw} (h : RRow w ao rs) (hl : rs.length = 8) : ∃ a, ao = some a := by
  obtain ⟨b, off, e, -⟩ := h.2 (by intro e; subst e; simp at hl)
  exact ⟨_, e⟩
/-- rows that are ok, or none -/
def rowsIf (rs : List Tm.Rw) : List Tm.Rw := if Tm.ownOk rs = true then rs else Tm.none8
theorem rowsIf_of {rs : List Tm.Rw} (h : Tm.ownOk rs = true) : rowsIf rs = rs := by unfold rowsIf; rw [if_pos h]
theorem rowsIf_no {rs : List Tm.Rw} (h : Tm.ownOk rs = false) : rowsIf rs = Tm.none8 := by unfold rowsIf; rw [if_neg (by simp [h])]
theorem rowsIf_len (rs : List Tm.Rw) : (rowsIf rs).length = 8 := by
  unfold rowsIf
  split
  · rename_i h; exact (Tm.ownOk_iff.1 h).1
  · rfl
theorem results_ct {fn : Func} {c d : Tmp} {t : TypeId} (h : fn.results = #[.cell c t, .tmp d]) {tmps : Array Value} {P : Program} {w : World} {a : Addr} {v : Value} (ha : tmps.getD c undef = .pointer (some a)) (hl : (Go.loadVar t a).run P w = .ok v w) :
    (results fn tmps).run P w = .ok (.tuple #[v, tmps.getD d undef]) w := by
  have ha' : tmps[c]?.getD undef = .pointer (some a) := by simpa using ha
  simp [results, h, asAddr, ha', hl]
theorem results_c {fn : Func} {c : Tmp} {t : TypeId} (h : fn.results = #[.cell c t]) {tmps : Array Value} {P : Program} {w : World} {a : Addr} {v : Value} (ha : tmps.getD c undef = .pointer (some a)) (hl : (Go.loadVar t a).run P w = .ok v w) :
    (results fn tmps).run P w = .ok v w := by
  have ha' : tmps[c]?.getD undef = .pointer (some a) := by simpa using ha
  simp [results, h, asAddr, ha', hl]
theorem copy_all {α : Type} (a b : List α) (h : a.length = b.length) : a.take 0 ++ b ++ a.drop (0 + b.length) = b := by
  rw [Nat.zero_add, ← h]; simp

set_option maxHeartbeats 1000000 in
theorem c59 (rs : List Tm.Rw) (ao : Option Addr) (n cap : Nat) (w : World) (hn : rs.length = n) (hm : n ≤ 1048576) (hr : RRow w ao rs) :
    Calls Tryz.prog 59 #[.slice ao n cap] w fun e w' => e = .returned (.tuple #[rowsV (rowsIf rs), .bool (Tm.ownOk rs)]) ∧ Below w.heap.size w w' := by
  have HR := hide hr
  have HN := hide hn
  clear hr hn
  have hA0 : Arr (w.alloc (.cells (Tm.none8.flatMap rCells).toArray 78)) w.heap.size Tm.none8 := arr_new w _
  have hA1 := hA0.alloc (.cells (Tm.none8.flatMap rCells).toArray 78)
  have hA2 := arr_new (w.alloc (.cells (Tm.none8.flatMap rCells).toArray 78)) Tm.none8
  have HA1 := hide hA1
  have HA2 := hide hA2
  clear hA0 hA1 hA2
  go_enter Tryz.func59, Tryz.ntmps59
  go_wp2_with fail
  refine (c91 rs ao n cap _ HN.out (by omega) ((unhide HR).bel (below_al (below_a _)))).mono ?_
  rintro e w1 ⟨rfl, hb⟩
  have HB := hide (below_tr (below_al (below_a (w := w) _)) hb)
  have hB1 : Arr w1 w.heap.size Tm.none8 := (unhide HA1).bel hb
  have hB2 : Arr w1 (w.heap.size + 1) Tm.none8 := by
    have := (unhide HA2).bel hb
    simpa using this
  have HB1 := hide hB1
  have HB2 := hide hB2
  have HRb := hide ((unhide HR).bel (unhide HB))
  clear hb hB1 hB2 HA1 HA2 HR
  rcases hk : Tm.ownOk rs with _ | _
  · have HE := hide (rowsIf_no hk)
    have HK := hide hk
    clear hk
    go_wp2_with (first | (refine wpList_load_run rfl _ 78 rfl _ rfl ((unhide HB2).load rfl) ?_) | (refine wpList_store_run rfl _ _ 78 rfl _ _ rfl rfl ((unhide HB1).store rfl rfl) ?_))
    have HC := hide ((unhide HB1).set Tm.none8)
    have HD := hide (below_row (unhide HB) (Nat.le_refl _) (Tm.none8.flatMap rCells).toArray)
    generalize w1.setRow w.heap.size (Tm.none8.flatMap rCells).toArray = w2 at *
    go_wp2_with fail
    have hld := (unhide HC).loadVar rfl
    exact bodyPost_ret (v := .tuple #[rowsV Tm.none8, .bool false]) (results_ct Tryz.results59 rfl hld) rfl ⟨by rw [unhide HE, unhide HK], unhide HD⟩
  · have hl := (Tm.ownOk_iff.1 hk).1
    obtain ⟨ad, rfl⟩ := rrow_some (unhide HRb) hl
    have hn8 : n = 8 := by rw [← HN.out]; exact hl
    subst hn8
    have HE := hide (rowsIf_of hk)
    have hcl : (rs.flatMap rCells).length = 24 := by rw [flat_len rCells 3 rCells_len, hl]
    have HCL := hide hcl
    have HL := hide hl
    have HK := hide hk
    clear hk hcl hl
    go_wp2_with (first | (refine wpList_copy_rowS rfl _ _ 44 44 rfl 29 3 Tryz.underlying44 Tryz.infoRs (w.heap.size + 1) 0 8 8 ad 8 cap rfl rfl (Tm.none8.flatMap rCells).toArray 78 (unhide HB2) (rs.flatMap rCells) (by rw [unhide HCL]; rfl) (rrow_src (unhide HRb)) (by rw [unhide HCL]; decide) (flat_oneCell rs) ?_; rw [copy_all (Tm.none8.flatMap rCells).toArray.toList (rs.flatMap rCells) (by rw [unhide HCL]; rfl)]; have HC2 := hide ((unhide HB2).set rs); have HC1 := hide ((unhide HB1).oth (k := w.heap.size + 1) (by omega) (rs.flatMap rCells).toArray); have HD := hide (below_row (unhide HB) (Nat.le_succ _) (rs.flatMap rCells).toArray); generalize w1.setRow (w.heap.size + 1) (rs.flatMap rCells).toArray = w2 at *) | (refine wpList_load_run rfl _ 78 rfl _ rfl ((unhide HC2).load (unhide HL)) ?_) | (refine wpList_store_run rfl _ _ 78 rfl _ _ rfl rfl ((unhide HC1).store rfl (unhide HL)) ?_))
    have hld := ((unhide HC1).set rs).loadVar (unhide HL)
    have HF := hide (below_row (unhide HD) (Nat.le_refl _) (rs.flatMap rCells).toArray)
    generalize w2.setRow w.heap.size (rs.flatMap rCells).toArray = w3 at *
    go_wp2_with fail
    exact bodyPost_ret (v := .tuple #[rowsV rs, .bool true]) (results_ct Tryz.results59 rfl hld) rfl ⟨by rw [unhide HE, unhide HK], unhide HF⟩
end Go.Proofs.YtmlbphmbffkdnaaGreat
namespace Go.Proofs.YtmlbphmbffkdnaaGreat
open Go.RowKit
set_option linter.unusedVariables false
set_option maxRecDepth 100000

/-- a map in a block of its own -/
def Mp (w : World) (r : Nat) (es : Array MapEntry) (clock : Nat) : Prop := w.heap[r]? = some (.map es clock)
/-- the world with another map in that block -/
def putMap (w : World) (r : Nat) (es : Array MapEntry) (clock : Nat) : World := { w with heap := w.heap.setIfInBounds r (.map es clock) }
theorem run_mapUpdate_int {P : Program} (w : World) (mty kt et : TypeId) (r clock : Nat) (es : Array MapEntry) (x : Int) (val : Value) (hm : P.underlying mty = some (.map kt et)) (hk : P.underlying kt = some (.int .i64)) (hb : Mp w r es clock)
    (hf : Instr.findNow (.int .i64) (.int .i64 x) es.toList 0 = some none) :
    (Instr.mapUpdate mty (.map (some r)) (.int .i64 x) val).run P w = .ok () (putMap w r (es.push { key := .int .i64 x, val := val, born := clock }) (clock + 1)) := by
  have hc : (Instr.checkKey false 10000 kt (.int .i64 x)).run P w = .ok () w := MapKept.run_checkKey (k := .int .i64 x) hk (by simp [MapKept.IsKey]) false 9999
  simp [Instr.mapUpdate, run_underlying hm, MapKept.run_getObj_map hb, hc, MapKept.run_findKey hk hf, MapKept.run_setObj_map _ hb, Result.andThen, putMap]
theorem run_lookup_int {P : Program} (w : World) (mty kt et : TypeId) (r clock : Nat) (es : Array MapEntry) (x : Int) (i : Nat) (val : Value) (hm : P.underlying mty = some (.map kt et)) (hk : P.underlying kt = some (.int .i64)) (hb : Mp w r es clock)
    (hf : Instr.findNow (.int .i64) (.int .i64 x) es.toList 0 = some (some (i, val))) :
    (Instr.lookup mty (.map (some r)) (.int .i64 x) true).run P w = .ok (.tuple #[val, .bool true]) w := by
  have hc : (Instr.checkKey es.isEmpty 10000 kt (.int .i64 x)).run P w = .ok () w := MapKept.run_checkKey (k := .int .i64 x) hk (by simp [MapKept.IsKey]) es.isEmpty 9999
  simp [Instr.lookup, run_underlying hm, MapKept.run_getObj_map hb, hc, MapKept.run_findKey hk hf, Result.andThen]
theorem Mp.put {w : World} {r clock clock' : Nat} {es es' : Array MapEntry} (h : Mp w r es clock) : Mp (putMap w r es' clock') r es' clock' := by
  have := (Array.getElem?_eq_some_iff.1 h).1
  simp [Mp, putMap, this]
theorem grown_putMap (w : World) (r clock : Nat) (es : Array MapEntry) : w.grownBy (putMap w r es clock) (some r) := by
  refine ⟨rfl, rfl, rfl, by simp [putMap], fun k hk hr => ?_⟩
  have : r ≠ k := fun e => hr (by rw [e])
  simp [putMap, this]
theorem wpList_insert_run {P : Program} {w : World} {ops : Array Oper} {rest : List Oper} {o : Oper} {a : Act} {Q : Exit → Act → World → Prop} (hgd : o.guard = none) (x y z : Operand) (t : TypeId)
    (ho : o.op = .insert t x y z) (p u v : Value) (hx : a.eval x = p) (hy : a.eval y = u) (hz : a.eval z = v) {w' : World} (hr : (Instr.mapUpdate t p u v).run P w = .ok () w') (h : wpList P ops Q rest (a.put o.dst undef) w') : wpList P ops Q (o :: rest) a w := by
  refine wpList_plain hgd fun K hK => ?_
  unfold Oper.wp
  simp only [execOp, ho, hx, hy, hz, Sem.run_bind, hr, Result.andThen_ok, Sem.run_pure]
  exact hK _ _ h
theorem Box.kpt {W w : World} {g : Nat} {vs : List Value} {row : Option Nat} (h : Box W g vs) (hg : W.grownBy w row) (hne : some g ≠ row) : Box w g vs := fun j v hv => by
  have hc := (h j v hv).1
  have hl := World.block_lt_of_cell? W _ hc
  have hb := hg.block g hl hne
  exact ⟨(World.cell?_of_block (a := ⟨g, j, none⟩) hb).trans hc, (World.frozen?_of_block (a := ⟨g, j, none⟩) hb).trans (h j v hv).2⟩

/-- a step of the map's making -/
theorem mp_step {w v : World} {r c c' : Nat} {es es' : Array MapEntry} (h : Mp w r es c) (e : putMap w r es' c' = v) : Mp v r es' c' ∧ w.grownBy v (some r) := by
  subst e; exact ⟨h.put, grown_putMap _ _ _ _⟩
theorem wpList_lookup_run {P : Program} {w : World} {ops : Array Oper} {rest : List Oper} {o : Oper} {a : Act} {Q : Exit → Act → World → Prop} (hgd : o.guard = none) (x y : Operand) (t : TypeId) (b : Bool)
    (ho : o.op = .lookup t x y b) (p u : Value) (hx : a.eval x = p) (hy : a.eval y = u) {v : Value} {w' : World} (hr : (Instr.lookup t p u b).run P w = .ok v w') (h : wpList P ops Q rest (a.put o.dst v) w') : wpList P ops Q (o :: rest) a w := by
  refine wpList_plain hgd fun K hK => ?_
  unfold Oper.wp
  simp only [execOp, ho, hx, hy, Sem.run_bind, hr, Result.andThen_ok, Sem.run_pure]
  exact hK _ _ h
theorem grown_tr' {a b c : World} {row : Option Nat} (h1 : a.grownBy b row) (h2 : b.grownBy c row) : a.grownBy c row :=
  ⟨h2.os.trans h1.os, h2.tape.trans h1.tape, h2.output.trans h1.output, Nat.le_trans h1.size h2.size, fun k hk hr => (h2.block k (Nat.lt_of_lt_of_le hk h1.size) hr).trans (h1.block k hk hr)⟩
theorem may_1 (a c : Int) (d : Bool) (t u p : Int) : Tm.may (a, c, d) (1, t, u, p) = decide (a = 0) := by unfold Tm.may; rw [Bool.eq_iff_iff]; simp
theorem may_2 (a c : Int) (d : Bool) (t u p : Int) : Tm.may (a, c, d) (2, t, u, p) = passOk a c d u p := by
  unfold Tm.may passOk; rw [Bool.eq_iff_iff]; simp
  intro _
  exact ⟨fun ⟨h2, h3, h4⟩ => ⟨h3, h2, h4⟩, fun ⟨h2, h3, h4⟩ => ⟨h3, h2, h4⟩⟩
theorem may_3 (a c : Int) (d : Bool) (t u p : Int) : Tm.may (a, c, d) (3, t, u, p) = (decide (a = u) && !d) := by unfold Tm.may; rw [Bool.eq_iff_iff]; simp

set_option maxHeartbeats 2000000 in
theorem mayFollow_1 (a c : Int) (d : Bool) (t u p : Int) (w : World) : Calls Tryz.prog 89 #[rowV a c d, entV 1 t u p] w fun e w' => e = .returned (.bool (Tm.may (a, c, d) (1, t, u, p))) ∧ Below w.heap.size w w' := by
  have hmm := @run_makeMap Tryz.prog
  have HX0 := (box_new w [.int .i64 a, .int .i64 c, .bool d] 29 (by simp [Value.oneCell'])).alloc (.cells #[.int .i64 1, .int .i64 t, .int .i64 u, .int .i64 p] 80)
  have HY0 := box_new (w.alloc (.cells #[.int .i64 a, .int .i64 c, .bool d] 29)) [.int .i64 1, .int .i64 t, .int .i64 u, .int .i64 p] 80 (by simp [Value.oneCell'])
  rw [show (w.alloc (.cells #[.int .i64 a, .int .i64 c, .bool d] 29)).heap.size = w.heap.size + 1 by simp] at HY0
  have HX1 := hide (HX0.alloc (.map #[] 0))
  have HY1 := hide (HY0.alloc (.map #[] 0))
  have HM0 : Hid (Mp (((w.alloc (.cells #[.int .i64 a, .int .i64 c, .bool d] 29)).alloc (.cells #[.int .i64 1, .int .i64 t, .int .i64 u, .int .i64 p] 80)).alloc (.map #[] 0)) (w.heap.size + 1 + 1) #[] 0) := by
    have := heap_alloc_last ((w.alloc (.cells #[.int .i64 a, .int .i64 c, .bool d] 29)).alloc (.cells #[.int .i64 1, .int .i64 t, .int .i64 u, .int .i64 p] 80)) (.map #[] 0)
    rw [show ((w.alloc (.cells #[.int .i64 a, .int .i64 c, .bool d] 29)).alloc (.cells #[.int .i64 1, .int .i64 t, .int .i64 u, .int .i64 p] 80)).heap.size = w.heap.size + 1 + 1 by simp] at this
    exact this
  have HB0 := hide (below_al (o := .map #[] 0) (below_al (o := .cells #[.int .i64 1, .int .i64 t, .int .i64 u, .int .i64 p] 80) (below_a (w := w) (.cells #[.int .i64 a, .int .i64 c, .bool d] 29))))
  have HG0 := hide (World.grownBy.refl (((w.alloc (.cells #[.int .i64 a, .int .i64 c, .bool d] 29)).alloc (.cells #[.int .i64 1, .int .i64 t, .int .i64 u, .int .i64 p] 80)).alloc (.map #[] 0)) (some (w.heap.size + 1 + 1)))
  clear HX0 HY0
  go_enter Tryz.func89, Tryz.ntmps89
  go_wp2_with (first | (refine wpList_insert_run rfl _ _ _ 133 rfl _ _ _ rfl rfl rfl (run_mapUpdate_int _ _ _ _ _ _ _ _ _ Tryz.underlying133 Tryz.underlying3 (unhide HM2) rfl) ?_; generalize hgn : putMap _ _ _ _ = v3; have hs := mp_step (unhide HM2) hgn; clear hgn; have HM3 := hide hs.1; have HG3 := hide (grown_tr' (unhide HG2) hs.2); clear hs HM2 HG2; have hbx := (unhide HX1).kpt (unhide HG3) (fun e => by simp only [Option.some.injEq] at e; omega); have hby := (unhide HY1).kpt (unhide HG3) (fun e => by simp only [Option.some.injEq] at e; omega); have x0 := hbx.cell 0 rfl; have x1 := hbx.cell 1 rfl; have x2 := hbx.cell 2 rfl; have y0 := hby.cell 0 rfl; have y1 := hby.cell 1 rfl; have y2 := hby.cell 2 rfl; have y3 := hby.cell 3 rfl; clear hbx hby) | (refine wpList_insert_run rfl _ _ _ 133 rfl _ _ _ rfl rfl rfl (run_mapUpdate_int _ _ _ _ _ _ _ _ _ Tryz.underlying133 Tryz.underlying3 (unhide HM1) rfl) ?_; generalize hgn : putMap _ _ _ _ = v2; have hs := mp_step (unhide HM1) hgn; clear hgn; have HM2 := hide hs.1; have HG2 := hide (grown_tr' (unhide HG1) hs.2); clear hs HM1 HG1) | (refine wpList_insert_run rfl _ _ _ 133 rfl _ _ _ rfl rfl rfl (run_mapUpdate_int _ _ _ _ _ _ _ _ _ Tryz.underlying133 Tryz.underlying3 (unhide HM0) rfl) ?_; generalize hgn : putMap _ _ _ _ = v1; have hs := mp_step (unhide HM0) hgn; clear hgn; have HM1 := hide hs.1; have HG1 := hide (grown_tr' (unhide HG0) hs.2); clear hs HM0 HG0) | (refine wpList_lookup_run rfl _ _ 133 true rfl _ _ rfl rfl (run_lookup_int _ _ _ _ _ _ _ _ _ _ Tryz.underlying133 Tryz.underlying3 (unhide HM3) rfl) ?_))
  refine (c109 a c d 1 t u p _).mono ?_
  rintro e w2 ⟨rfl, hb2⟩
  have HB := hide (below_tr (grown_below (unhide HB0) (unhide HG3) (by intro q hq; cases hq; omega)) hb2)
  have HE := hide (may_1 a c d t u p)
  clear hb2 x0 x1 x2 y0 y1 y2 y3 HM3 HG3 HX1 HY1 HB0
  go_wp2_with fail
  go_ret
  exact ⟨ret_bool (by rw [unhide HE]), unhide HB⟩

set_option maxHeartbeats 2000000 in
theorem mayFollow_2 (a c : Int) (d : Bool) (t u p : Int) (w : World) : Calls Tryz.prog 89 #[rowV a c d, entV 2 t u p] w fun e w' => e = .returned (.bool (Tm.may (a, c, d) (2, t, u, p))) ∧ Below w.heap.size w w' := by
  have hmm := @run_makeMap Tryz.prog
  have HX0 := (box_new w [.int .i64 a, .int .i64 c, .bool d] 29 (by simp [Value.oneCell'])).alloc (.cells #[.int .i64 2, .int .i64 t, .int .i64 u, .int .i64 p] 80)
  have HY0 := box_new (w.alloc (.cells #[.int .i64 a, .int .i64 c, .bool d] 29)) [.int .i64 2, .int .i64 t, .int .i64 u, .int .i64 p] 80 (by simp [Value.oneCell'])
  rw [show (w.alloc (.cells #[.int .i64 a, .int .i64 c, .bool d] 29)).heap.size = w.heap.size + 1 by simp] at HY0
  have HX1 := hide (HX0.alloc (.map #[] 0))
  have HY1 := hide (HY0.alloc (.map #[] 0))
  have HM0 : Hid (Mp (((w.alloc (.cells #[.int .i64 a, .int .i64 c, .bool d] 29)).alloc (.cells #[.int .i64 2, .int .i64 t, .int .i64 u, .int .i64 p] 80)).alloc (.map #[] 0)) (w.heap.size + 1 + 1) #[] 0) := by
    have := heap_alloc_last ((w.alloc (.cells #[.int .i64 a, .int .i64 c, .bool d] 29)).alloc (.cells #[.int .i64 2, .int .i64 t, .int .i64 u, .int .i64 p] 80)) (.map #[] 0)
    rw [show ((w.alloc (.cells #[.int .i64 a, .int .i64 c, .bool d] 29)).alloc (.cells #[.int .i64 2, .int .i64 t, .int .i64 u, .int .i64 p] 80)).heap.size = w.heap.size + 1 + 1 by simp] at this
    exact this
  have HB0 := hide (below_al (o := .map #[] 0) (below_al (o := .cells #[.int .i64 2, .int .i64 t, .int .i64 u, .int .i64 p] 80) (below_a (w := w) (.cells #[.int .i64 a, .int .i64 c, .bool d] 29))))
  have HG0 := hide (World.grownBy.refl (((w.alloc (.cells #[.int .i64 a, .int .i64 c, .bool d] 29)).alloc (.cells #[.int .i64 2, .int .i64 t, .int .i64 u, .int .i64 p] 80)).alloc (.map #[] 0)) (some (w.heap.size + 1 + 1)))
  clear HX0 HY0
  go_enter Tryz.func89, Tryz.ntmps89
  go_wp2_with (first | (refine wpList_insert_run rfl _ _ _ 133 rfl _ _ _ rfl rfl rfl (run_mapUpdate_int _ _ _ _ _ _ _ _ _ Tryz.underlying133 Tryz.underlying3 (unhide HM2) rfl) ?_; generalize hgn : putMap _ _ _ _ = v3; have hs := mp_step (unhide HM2) hgn; clear hgn; have HM3 := hide hs.1; have HG3 := hide (grown_tr' (unhide HG2) hs.2); clear hs HM2 HG2; have hbx := (unhide HX1).kpt (unhide HG3) (fun e => by simp only [Option.some.injEq] at e; omega); have hby := (unhide HY1).kpt (unhide HG3) (fun e => by simp only [Option.some.injEq] at e; omega); have x0 := hbx.cell 0 rfl; have x1 := hbx.cell 1 rfl; have x2 := hbx.cell 2 rfl; have y0 := hby.cell 0 rfl; have y1 := hby.cell 1 rfl; have y2 := hby.cell 2 rfl; have y3 := hby.cell 3 rfl; clear hbx hby) | (refine wpList_insert_run rfl _ _ _ 133 rfl _ _ _ rfl rfl rfl (run_mapUpdate_int _ _ _ _ _ _ _ _ _ Tryz.underlying133 Tryz.underlying3 (unhide HM1) rfl) ?_; generalize hgn : putMap _ _ _ _ = v2; have hs := mp_step (unhide HM1) hgn; clear hgn; have HM2 := hide hs.1; have HG2 := hide (grown_tr' (unhide HG1) hs.2); clear hs HM1 HG1) | (refine wpList_insert_run rfl _ _ _ 133 rfl _ _ _ rfl rfl rfl (run_mapUpdate_int _ _ _ _ _ _ _ _ _ Tryz.underlying133 Tryz.underlying3 (unhide HM0) rfl) ?_; generalize hgn : putMap _ _ _ _ = v1; have hs := mp_step (unhide HM0) hgn; clear hgn; have HM1 := hide hs.1; have HG1 := hide (grown_tr' (unhide HG0) hs.2); clear hs HM0 HG0) | (refine wpList_lookup_run rfl _ _ 133 true rfl _ _ rfl rfl (run_lookup_int _ _ _ _ _ _ _ _ _ _ Tryz.underlying133 Tryz.underlying3 (unhide HM3) rfl) ?_))
  refine (c110 a c d 2 t u p _).mono ?_
  rintro e w2 ⟨rfl, hb2⟩
  have HB := hide (below_tr (grown_below (unhide HB0) (unhide HG3) (by intro q hq; cases hq; omega)) hb2)
  have HE := hide (may_2 a c d t u p)
  clear hb2 x0 x1 x2 y0 y1 y2 y3 HM3 HG3 HX1 HY1 HB0
  go_wp2_with fail
  go_ret
  exact ⟨ret_bool (by rw [unhide HE]), unhide HB⟩

set_option maxHeartbeats 2000000 in
theorem mayFollow_3 (a c : Int) (d : Bool) (t u p : Int) (w : World) : Calls Tryz.prog 89 #[rowV a c d, entV 3 t u p] w fun e w' => e = .returned (.bool (Tm.may (a, c, d) (3, t, u, p))) ∧ Below w.heap.size w w' := by
  have hmm := @run_makeMap Tryz.prog
  have HX0 := (box_new w [.int .i64 a, .int .i64 c, .bool d] 29 (by simp [Value.oneCell'])).alloc (.cells #[.int .i64 3, .int .i64 t, .int .i64 u, .int .i64 p] 80)
  have HY0 := box_new (w.alloc (.cells #[.int .i64 a, .int .i64 c, .bool d] 29)) [.int .i64 3, .int .i64 t, .int .i64 u, .int .i64 p] 80 (by simp [Value.oneCell'])
  rw [show (w.alloc (.cells #[.int .i64 a, .int .i64 c, .bool d] 29)).heap.size = w.heap.size + 1 by simp] at HY0
  have HX1 := hide (HX0.alloc (.map #[] 0))
  have HY1 := hide (HY0.alloc (.map #[] 0))
  have HM0 : Hid (Mp (((w.alloc (.cells #[.int .i64 a, .int .i64 c, .bool d] 29)).alloc (.cells #[.int .i64 3, .int .i64 t, .int .i64 u, .int .i64 p] 80)).alloc (.map #[] 0)) (w.heap.size + 1 + 1) #[] 0) := by
    have := heap_alloc_last ((w.alloc (.cells #[.int .i64 a, .int .i64 c, .bool d] 29)).alloc (.cells #[.int .i64 3, .int .i64 t, .int .i64 u, .int .i64 p] 80)) (.map #[] 0)
    rw [show ((w.alloc (.cells #[.int .i64 a, .int .i64 c, .bool d] 29)).alloc (.cells #[.int .i64 3, .int .i64 t, .int .i64 u, .int .i64 p] 80)).heap.size = w.heap.size + 1 + 1 by simp] at this
    exact this
  have HB0 := hide (below_al (o := .map #[] 0) (below_al (o := .cells #[.int .i64 3, .int .i64 t, .int .i64 u, .int .i64 p] 80) (below_a (w := w) (.cells #[.int .i64 a, .int .i64 c, .bool d] 29))))
  have HG0 := hide (World.grownBy.refl (((w.alloc (.cells #[.int .i64 a, .int .i64 c, .bool d] 29)).alloc (.cells #[.int .i64 3, .int .i64 t, .int .i64 u, .int .i64 p] 80)).alloc (.map #[] 0)) (some (w.heap.size + 1 + 1)))
  clear HX0 HY0
  go_enter Tryz.func89, Tryz.ntmps89
  go_wp2_with (first | (refine wpList_insert_run rfl _ _ _ 133 rfl _ _ _ rfl rfl rfl (run_mapUpdate_int _ _ _ _ _ _ _ _ _ Tryz.underlying133 Tryz.underlying3 (unhide HM2) rfl) ?_; generalize hgn : putMap _ _ _ _ = v3; have hs := mp_step (unhide HM2) hgn; clear hgn; have HM3 := hide hs.1; have HG3 := hide (grown_tr' (unhide HG2) hs.2); clear hs HM2 HG2; have hbx := (unhide HX1).kpt (unhide HG3) (fun e => by simp only [Option.some.injEq] at e; omega); have hby := (unhide HY1).kpt (unhide HG3) (fun e => by simp only [Option.some.injEq] at e; omega); have x0 := hbx.cell 0 rfl; have x1 := hbx.cell 1 rfl; have x2 := hbx.cell 2 rfl; have y0 := hby.cell 0 rfl; have y1 := hby.cell 1 rfl; have y2 := hby.cell 2 rfl; have y3 := hby.cell 3 rfl; clear hbx hby) | (refine wpList_insert_run rfl _ _ _ 133 rfl _ _ _ rfl rfl rfl (run_mapUpdate_int _ _ _ _ _ _ _ _ _ Tryz.underlying133 Tryz.underlying3 (unhide HM1) rfl) ?_; generalize hgn : putMap _ _ _ _ = v2; have hs := mp_step (unhide HM1) hgn; clear hgn; have HM2 := hide hs.1; have HG2 := hide (grown_tr' (unhide HG1) hs.2); clear hs HM1 HG1) | (refine wpList_insert_run rfl _ _ _ 133 rfl _ _ _ rfl rfl rfl (run_mapUpdate_int _ _ _ _ _ _ _ _ _ Tryz.underlying133 Tryz.underlying3 (unhide HM0) rfl) ?_; generalize hgn : putMap _ _ _ _ = v1; have hs := mp_step (unhide HM0) hgn; clear hgn; have HM1 := hide hs.1; have HG1 := hide (grown_tr' (unhide HG0) hs.2); clear hs HM0 HG0) | (refine wpList_lookup_run rfl _ _ 133 true rfl _ _ rfl rfl (run_lookup_int _ _ _ _ _ _ _ _ _ _ Tryz.underlying133 Tryz.underlying3 (unhide HM3) rfl) ?_))
  refine (c111 a c d 3 t u p _).mono ?_
  rintro e w2 ⟨rfl, hb2⟩
  have HB := hide (below_tr (grown_below (unhide HB0) (unhide HG3) (by intro q hq; cases hq; omega)) hb2)
  have HE := hide (may_3 a c d t u p)
  clear hb2 x0 x1 x2 y0 y1 y2 y3 HM3 HG3 HX1 HY1 HB0
  go_wp2_with fail
  go_ret
  exact ⟨ret_bool (by rw [unhide HE]), unhide HB⟩

theorem c89 (a c : Int) (d : Bool) (k t u p : Int) (w : World) (hk : Tm.entOk (k, t, u, p) = true) : Calls Tryz.prog 89 #[rowV a c d, entV k t u p] w fun e w' => e = .returned (.bool (Tm.may (a, c, d) (k, t, u, p))) ∧ Below w.heap.size w w' := by
  rw [Tm.entOk_iff] at hk
  rcases hk.2.2.2.2 with ⟨h, -⟩ | ⟨h, -⟩ | ⟨h, -⟩ <;> (dsimp only at h; subst h)
  · exact mayFollow_1 a c d t u p w
  · exact mayFollow_2 a c d t u p w
  · exact mayFollow_3 a c d t u p w
end Go.Proofs.YtmlbphmbffkdnaaGreat
