/-
  Texts of the proof, what it needs of them: Hous.
-/
import Derived.Test.YtmlbphmbffkdnaaGt12
import Derived.Test.YtmlbphmbffkdnaaGt14
namespace Go.Proofs.Ytmlbphmbffkdnaa
open Go.RowKit
set_option linter.unusedVariables false
set_option maxRecDepth 100000

structure House where
  es : List Tm.Ent
  pu : List Int
  ds : List Tm.Deal
  cl : Int
  nu : List Int
  sa : List Int
/-- where its slices lie -/
structure HP where
  a0 : Option Addr
  k0 : Nat
  a1 : Option Addr
  k1 : Nat
  a2 : Option Addr
  k2 : Nat
  a4 : Option Addr
  k4 : Nat
  a5 : Option Addr
  k5 : Nat
abbrev hCs (q : HP) (h : House) : List Value := [.slice q.a0 h.es.length q.k0, .slice q.a1 h.pu.length q.k1, .slice q.a2 h.ds.length q.k2, .int .i64 h.cl, .slice q.a4 h.nu.length q.k4, .slice q.a5 h.sa.length q.k5]
abbrev hV (q : HP) (h : House) : Value := .agg #[.slice q.a0 h.es.length q.k0, .slice q.a1 h.pu.length q.k1, .slice q.a2 h.ds.length q.k2, .int .i64 h.cl, .slice q.a4 h.nu.length q.k4, .slice q.a5 h.sa.length q.k5]
def Small (h : House) : Prop := h.es.length ≤ 1048576 ∧ h.pu.length ≤ 1048576 ∧ h.ds.length ≤ 1048576 ∧ h.nu.length ≤ 1048576 ∧ h.sa.length ≤ 1048576
def HRow (w : World) (q : HP) (h : House) : Prop := ERow w q.a0 h.es ∧ Row w q.a1 h.pu ∧ DRow w q.a2 h.ds ∧ Row w q.a4 h.nu ∧ Row w q.a5 h.sa
theorem HRow.bel {w w' : World} {q : HP} {h : House} (r : HRow w q h) (hb : Below w.heap.size w w') : HRow w' q h := ⟨r.1.bel hb, r.2.1.bel hb, r.2.2.1.bel hb, r.2.2.2.1.bel hb, r.2.2.2.2.bel hb⟩
theorem sameD (xs : List Tm.Deal) (ao bo : Option Addr) (n cap cap' : Nat) (w : World) (hn : xs.length = n) (h1 : n ≤ 1048576) (hr : DRow w ao xs) (hs : DRow w bo xs) :
    Calls Try.prog 165 #[.slice ao n cap, .slice bo n cap'] w fun e w' => e = .returned (.bool true) ∧ Below w.heap.size w w' := by
  refine (c165 xs xs ao bo n cap n cap' w hn hn (by omega) (by omega) hr hs).mono ?_
  rintro e w1 ⟨rfl, hb⟩
  exact ⟨by simp, hb⟩
theorem box_new2 (w : World) (o : Obj) (vs : List Value) (t : Nat) (h1 : ∀ v ∈ vs, v.oneCell' = true) : Box ((w.alloc o).alloc (.cells vs.toArray t)) (w.heap.size + 1) vs := by
  have e : (w.alloc o).heap.size = w.heap.size + 1 := by first | rfl | simp
  have h := box_new (w.alloc o) vs t h1
  rw [e] at h
  exact h
theorem box_kpt {W w : World} {g : Nat} {vs : List Value} {row : Option Nat} (h : Box W g vs) (hg : W.grownBy w row) (hne : some g ≠ row) : Box w g vs := fun j v hv => by
  have hc := (h j v hv).1
  have hl := World.block_lt_of_cell? W _ hc
  have hb := hg.block g hl hne
  exact ⟨(World.cell?_of_block (a := ⟨g, j, none⟩) hb).trans hc, (World.frozen?_of_block (a := ⟨g, j, none⟩) hb).trans (h j v hv).2⟩
theorem hCs_one (q : HP) (h : House) : ∀ v ∈ hCs q h, v.oneCell' = true := by
  intro v hv
  simp [hCs] at hv
  rcases hv with rfl | rfl | rfl | rfl | rfl | rfl <;> rfl

set_option maxHeartbeats 1600000 in
theorem sameH (h : House) (q r : HP) (w : World) (hs : Small h) (hq : HRow w q h) (hr : HRow w r h) :
    Calls Try.prog 84 #[hV q h, hV r h] w fun e w' => e = .returned (.bool true) ∧ Below w.heap.size w w' := by
  obtain ⟨es, pu, ds, cl, nu, sa⟩ := h
  have HS := hide hs
  have HQ := hide hq
  have HR := hide hr
  have HX := hide ((box_new w (hCs q ⟨es, pu, ds, cl, nu, sa⟩) 28 (hCs_one _ _)).alloc (.cells (hCs r ⟨es, pu, ds, cl, nu, sa⟩).toArray 28))
  have HY := hide (box_new2 w (.cells (hCs q ⟨es, pu, ds, cl, nu, sa⟩).toArray 28) (hCs r ⟨es, pu, ds, cl, nu, sa⟩) 28 (hCs_one _ _))
  have HB := hide (below_al (below_a _) : Below w.heap.size w ((w.alloc (.cells (hCs q ⟨es, pu, ds, cl, nu, sa⟩).toArray 28)).alloc (.cells (hCs r ⟨es, pu, ds, cl, nu, sa⟩).toArray 28)))
  clear hs hq hr
  go_enter Try.func84, Try.ntmps84
  go_wp2_with fail
  refine (sameE es _ _ _ _ _ _ rfl (unhide HS).1 ((unhide HQ).1.bel (unhide HB)) ((unhide HR).1.bel (unhide HB))).mono ?_
  rintro e w1 ⟨rfl, hb1⟩
  have HX1 := hide ((unhide HX).below hb1)
  have HY1 := hide ((unhide HY).below hb1)
  have HB1 := hide (below_tr (unhide HB) hb1)
  clear hb1 HX HY HB
  have x0 := (unhide HX1).cell 0 rfl
  have y0 := (unhide HY1).cell 0 rfl
  have x1 := (unhide HX1).cell 1 rfl
  have y1 := (unhide HY1).cell 1 rfl
  have x2 := (unhide HX1).cell 2 rfl
  have y2 := (unhide HY1).cell 2 rfl
  have x3 := (unhide HX1).cell 3 rfl
  have y3 := (unhide HY1).cell 3 rfl
  have x4 := (unhide HX1).cell 4 rfl
  have y4 := (unhide HY1).cell 4 rfl
  have x5 := (unhide HX1).cell 5 rfl
  have y5 := (unhide HY1).cell 5 rfl
  go_wp2_with fail
  refine (sameI pu _ _ _ _ _ _ rfl (unhide HS).2.1 ((unhide HQ).2.1.bel (unhide HB1)) ((unhide HR).2.1.bel (unhide HB1))).mono ?_
  rintro e w2 ⟨rfl, hb2⟩
  have HX2 := hide ((unhide HX1).below hb2)
  have HY2 := hide ((unhide HY1).below hb2)
  have HB2 := hide (below_tr (unhide HB1) hb2)
  clear hb2 HX1 HY1 HB1 x0 y0 x1 y1 x2 y2 x3 y3 x4 y4 x5 y5
  have x0 := (unhide HX2).cell 0 rfl
  have y0 := (unhide HY2).cell 0 rfl
  have x1 := (unhide HX2).cell 1 rfl
  have y1 := (unhide HY2).cell 1 rfl
  have x2 := (unhide HX2).cell 2 rfl
  have y2 := (unhide HY2).cell 2 rfl
  have x3 := (unhide HX2).cell 3 rfl
  have y3 := (unhide HY2).cell 3 rfl
  have x4 := (unhide HX2).cell 4 rfl
  have y4 := (unhide HY2).cell 4 rfl
  have x5 := (unhide HX2).cell 5 rfl
  have y5 := (unhide HY2).cell 5 rfl
  go_wp2_with fail
  refine (sameD ds _ _ _ _ _ _ rfl (unhide HS).2.2.1 ((unhide HQ).2.2.1.bel (unhide HB2)) ((unhide HR).2.2.1.bel (unhide HB2))).mono ?_
  rintro e w3 ⟨rfl, hb3⟩
  have HX3 := hide ((unhide HX2).below hb3)
  have HY3 := hide ((unhide HY2).below hb3)
  have HB3 := hide (below_tr (unhide HB2) hb3)
  clear hb3 HX2 HY2 HB2 x0 y0 x1 y1 x2 y2 x3 y3 x4 y4 x5 y5
  have x0 := (unhide HX3).cell 0 rfl
  have y0 := (unhide HY3).cell 0 rfl
  have x1 := (unhide HX3).cell 1 rfl
  have y1 := (unhide HY3).cell 1 rfl
  have x2 := (unhide HX3).cell 2 rfl
  have y2 := (unhide HY3).cell 2 rfl
  have x3 := (unhide HX3).cell 3 rfl
  have y3 := (unhide HY3).cell 3 rfl
  have x4 := (unhide HX3).cell 4 rfl
  have y4 := (unhide HY3).cell 4 rfl
  have x5 := (unhide HX3).cell 5 rfl
  have y5 := (unhide HY3).cell 5 rfl
  go_wp2_with fail
  refine (sameI nu _ _ _ _ _ _ rfl (unhide HS).2.2.2.1 ((unhide HQ).2.2.2.1.bel (unhide HB3)) ((unhide HR).2.2.2.1.bel (unhide HB3))).mono ?_
  rintro e w4 ⟨rfl, hb4⟩
  have HX4 := hide ((unhide HX3).below hb4)
  have HY4 := hide ((unhide HY3).below hb4)
  have HB4 := hide (below_tr (unhide HB3) hb4)
  clear hb4 HX3 HY3 HB3 x0 y0 x1 y1 x2 y2 x3 y3 x4 y4 x5 y5
  have x0 := (unhide HX4).cell 0 rfl
  have y0 := (unhide HY4).cell 0 rfl
  have x1 := (unhide HX4).cell 1 rfl
  have y1 := (unhide HY4).cell 1 rfl
  have x2 := (unhide HX4).cell 2 rfl
  have y2 := (unhide HY4).cell 2 rfl
  have x3 := (unhide HX4).cell 3 rfl
  have y3 := (unhide HY4).cell 3 rfl
  have x4 := (unhide HX4).cell 4 rfl
  have y4 := (unhide HY4).cell 4 rfl
  have x5 := (unhide HX4).cell 5 rfl
  have y5 := (unhide HY4).cell 5 rfl
  go_wp2_with fail
  refine (sameI sa _ _ _ _ _ _ rfl (unhide HS).2.2.2.2 ((unhide HQ).2.2.2.2.bel (unhide HB4)) ((unhide HR).2.2.2.2.bel (unhide HB4))).mono ?_
  rintro e w5 ⟨rfl, hb5⟩
  have HX5 := hide ((unhide HX4).below hb5)
  have HY5 := hide ((unhide HY4).below hb5)
  have HB5 := hide (below_tr (unhide HB4) hb5)
  clear hb5 HX4 HY4 HB4 x0 y0 x1 y1 x2 y2 x3 y3 x4 y4 x5 y5
  go_wp2_with fail
  go_ret
  exact ⟨rfl, unhide HB5⟩

/-- two slices that lie apart -/
def Apt (v u : Value) : Prop := ∀ b, v.ownBlock = some b → some b ≠ u.ownBlock
theorem Apt.symm {v u : Value} (h : Apt v u) : Apt u v := fun b hb e => h b e.symm hb.symm
def Apart5 (v0 v1 v2 v4 v5 : Value) : Prop := Apt v0 v1 ∧ Apt v0 v2 ∧ Apt v0 v4 ∧ Apt v0 v5 ∧ Apt v1 v2 ∧ Apt v1 v4 ∧ Apt v1 v5 ∧ Apt v2 v4 ∧ Apt v2 v5 ∧ Apt v4 v5
def HOwn (w : World) (base : Nat) (q : HP) (h : House) : Prop :=
  EOwn w base (.slice q.a0 h.es.length q.k0) h.es ∧ Own w base (.slice q.a1 h.pu.length q.k1) h.pu ∧ DOwn w base (.slice q.a2 h.ds.length q.k2) h.ds ∧ Own w base (.slice q.a4 h.nu.length q.k4) h.nu ∧ Own w base (.slice q.a5 h.sa.length q.k5) h.sa ∧
  Apart5 (.slice q.a0 h.es.length q.k0) (.slice q.a1 h.pu.length q.k1) (.slice q.a2 h.ds.length q.k2) (.slice q.a4 h.nu.length q.k4) (.slice q.a5 h.sa.length q.k5)
theorem HOwn.bel {w w' : World} {base : Nat} {q : HP} {h : House} (o : HOwn w base q h) (hb : Below w.heap.size w w') : HOwn w' base q h := ⟨o.1.bel hb, o.2.1.bel hb, o.2.2.1.bel hb, o.2.2.2.1.bel hb, o.2.2.2.2.1.bel hb, o.2.2.2.2.2⟩
theorem HOwn.rd {w : World} {base : Nat} {q : HP} {h : House} (o : HOwn w base q h) : HRow w q h := by
  refine ⟨o.1.rd rfl, own_rowI o.2.1, ?_, own_rowI o.2.2.2.1, own_rowI o.2.2.2.2.1⟩
  exact ⟨o.2.2.1.1, owns_row dCells_len rfl o.2.2.1.2⟩
/-- how far the marks come -/
def hk1 (h : House) : Nat := 4 * h.es.length + 1
def hk2 (h : House) : Nat := h.pu.length + hk1 h
def hk3 (h : House) : Nat := 5 * h.ds.length + hk2 h
def hk4 (h : House) : Nat := h.nu.length + hk3 h
def hk5 (h : House) : Nat := h.sa.length + hk4 h
def HHld (w : World) (base : Nat) (q : HP) (h : House) : Prop :=
  w.ownsRow base 134 4 (.slice q.a0 h.es.length q.k0) h.es.length (((List.range h.es.length).map (mkgE 1)).flatMap eCells) ∧
  Own w base (.slice q.a1 h.pu.length q.k1) (markedg (hk1 h) h.pu h.pu.length) ∧
  w.ownsRow base 42 5 (.slice q.a2 h.ds.length q.k2) h.ds.length (((List.range h.ds.length).map (mkgD (hk2 h))).flatMap dCells) ∧
  Own w base (.slice q.a4 h.nu.length q.k4) (markedg (hk3 h) h.nu h.nu.length) ∧ Own w base (.slice q.a5 h.sa.length q.k5) (markedg (hk4 h) h.sa h.sa.length)
theorem HHld.bel {w w' : World} {base : Nat} {q : HP} {h : House} (o : HHld w base q h) (hb : Below w.heap.size w w') : HHld w' base q h := ⟨owns_below o.1 hb, o.2.1.bel hb, owns_below o.2.2.1 hb, o.2.2.2.1.bel hb, o.2.2.2.2.bel hb⟩
theorem markEg (h : House) (base : Nat) (v : Value) (w : World) (hz : h.es.length ≤ 1048576) (ho : EOwn w base v h.es) :
    Calls Try.prog 166 #[v, .int .i64 1] w fun e w' => e = .returned (.int .i64 ((hk1 h : Nat) : Int)) ∧ w'.ownsRow base 134 4 v h.es.length (((List.range h.es.length).map (mkgE 1)).flatMap eCells) ∧ w.grownBy w' v.ownBlock := by
  refine (c166g h.es base 1 v w hz (by decide) ho.2).mono ?_
  rintro e w1 ⟨rfl, h1, h2⟩
  exact ⟨by simp [hk1], h1, h2⟩
theorem markDg (xs : List Tm.Deal) (base c : Nat) (v : Value) (w : World) (hz : xs.length ≤ 1048576) (hc : c ≤ 100000000) (ho : DOwn w base v xs) :
    Calls Try.prog 167 #[v, .int .i64 (c : Int)] w fun e w' => e = .returned (.int .i64 ((5 * xs.length + c : Nat) : Int)) ∧ w'.ownsRow base 42 5 v xs.length (((List.range xs.length).map (mkgD c)).flatMap dCells) ∧ w.grownBy w' v.ownBlock := by
  refine (c167g xs base c v w hz hc ho.2).mono ?_
  rintro e w1 ⟨rfl, h1, h2⟩
  exact ⟨by simp, h1, h2⟩
theorem markIg (xs : List Int) (base c : Nat) (v : Value) (w : World) (hz : xs.length ≤ 1048576) (hc : c ≤ 100000000) (ho : Own w base v xs) :
    Calls Try.prog 93 #[v, .int .i64 (c : Int)] w fun e w' => e = .returned (.int .i64 ((xs.length + c : Nat) : Int)) ∧ Own w' base v (markedg c xs xs.length) ∧ w.grownBy w' v.ownBlock := by
  refine (c93g xs base c v w hz hc ho).mono ?_
  rintro e w1 ⟨rfl, h1, h2⟩
  exact ⟨by simp, h1, h2⟩
/-- a block that is none of the market's own -/
def NotIn (g : Nat) (q : HP) (h : House) : Prop := some g ≠ (Value.slice q.a0 h.es.length q.k0).ownBlock ∧ some g ≠ (Value.slice q.a1 h.pu.length q.k1).ownBlock ∧ some g ≠ (Value.slice q.a2 h.ds.length q.k2).ownBlock ∧ some g ≠ (Value.slice q.a4 h.nu.length q.k4).ownBlock ∧ some g ≠ (Value.slice q.a5 h.sa.length q.k5).ownBlock
theorem HOwn.notIn {w : World} {base g : Nat} {q : HP} {h : House} (o : HOwn w base q h) (hg : w.heap.size ≤ g) : NotIn g q h := by
  refine ⟨fun e => ?_, fun e => ?_, fun e => ?_, fun e => ?_, fun e => ?_⟩
  · have := (o.1.2.lt _ e.symm).2; omega
  · have := (o.2.1.2.lt _ e.symm).2; omega
  · have := (o.2.2.1.2.lt _ e.symm).2; omega
  · have := (o.2.2.2.1.2.lt _ e.symm).2; omega
  · have := (o.2.2.2.2.1.2.lt _ e.symm).2; omega
theorem DOwn.kpt {w w' : World} {base : Nat} {v : Value} {xs : List Tm.Deal} {row : Option Nat} (h : DOwn w base v xs) (hg : w.grownBy w' row) (hne : ∀ b, v.ownBlock = some b → some b ≠ row) : DOwn w' base v xs := ⟨h.1, ownsK h.2 hg hne⟩

theorem HOwn.kptB {w w' : World} {base g : Nat} {q : HP} {h : House} (o : HOwn w base q h) (hg : w.grownBy w' (some g)) (hl : g < base) : HOwn w' base q h := by
  refine ⟨o.1.kpt hg (fun b hb e => ?_), o.2.1.kpt hg (fun b hb e => ?_), o.2.2.1.kpt hg (fun b hb e => ?_), o.2.2.2.1.kpt hg (fun b hb e => ?_), o.2.2.2.2.1.kpt hg (fun b hb e => ?_), o.2.2.2.2.2⟩
  · cases e; have := (o.1.2.lt _ hb).1; omega
  · cases e; have := (o.2.1.2.lt _ hb).1; omega
  · cases e; have := (o.2.2.1.2.lt _ hb).1; omega
  · cases e; have := (o.2.2.2.1.2.lt _ hb).1; omega
  · cases e; have := (o.2.2.2.2.1.2.lt _ hb).1; omega
set_option maxHeartbeats 1600000 in
theorem markH (h : House) (q : HP) (base : Nat) (w : World) (hs : Small h) (hq : HOwn w base q h) :
    Calls Try.prog 85 #[hV q h, .int .i64 1] w fun e w' => e = .returned (.int .i64 ((hk5 h : Nat) : Int)) ∧ HHld w' base q h ∧ (∀ A : World, A.heap.size ≤ base → Below A.heap.size A w → Below A.heap.size A w') ∧ (∀ g vs, Box w g vs → NotIn g q h → Box w' g vs) := by
  have HS := hide hs
  have HG : Hid (∀ g vs, Box w g vs → NotIn g q h → Box (w.alloc (.cells (hCs q h).toArray 28)) g vs) := fun g vs hb _ => hb.alloc _
  have HX := hide (box_new w (hCs q h) 28 (hCs_one _ _))
  obtain ⟨o0, o1, o2, o4, o5, p01, p02, p04, p05, p12, p14, p15, p24, p25, p45⟩ := hq.bel (below_a (.cells (hCs q h).toArray 28))
  have hl : ∀ v : Value, ∀ n, (∃ s t cs, w.ownsRow base t s v n cs) → some w.heap.size ≠ v.ownBlock ∧ ∀ b, v.ownBlock = some b → base ≤ b := by
    rintro v n ⟨s, t, cs, ho⟩
    refine ⟨fun e => ?_, fun b hb => (ho.lt b hb).1⟩
    have := (ho.lt _ e.symm).2
    omega
  have l0 := hl _ _ ⟨_, _, _, hq.1.2⟩
  have l1 := hl _ _ ⟨_, _, _, hq.2.1.2⟩
  have l2 := hl _ _ ⟨_, _, _, hq.2.2.1.2⟩
  have l4 := hl _ _ ⟨_, _, _, hq.2.2.2.1.2⟩
  have l5 := hl _ _ ⟨_, _, _, hq.2.2.2.2.1.2⟩
  have HA : Hid (∀ A : World, A.heap.size ≤ base → Below A.heap.size A w → Below A.heap.size A (w.alloc (.cells (hCs q h).toArray 28))) := fun A hA hb => below_tr hb (below_a _)
  have HL := hide (show (_ ∧ _ ∧ _ ∧ _ ∧ _) from ⟨l0, l1, l2, l4, l5⟩)
  have HP := hide (show (_ ∧ _ ∧ _ ∧ _ ∧ _ ∧ _ ∧ _ ∧ _ ∧ _ ∧ _) from ⟨p01, p02, p04, p05, p12, p14, p15, p24, p25, p45⟩)
  have O0 := hide o0
  have O1 := hide o1
  have O2 := hide o2
  have O4 := hide o4
  have O5 := hide o5
  clear hs hq hl l0 l1 l2 l4 l5 p01 p02 p04 p05 p12 p14 p15 p24 p25 p45 o0 o1 o2 o4 o5
  go_enter Try.func85, Try.ntmps85
  go_wp2_with fail
  refine (markEg h base _ _ (unhide HS).1 (unhide O0)).mono ?_
  rintro e w1 ⟨rfl, m0, hg⟩
  have HX_1 := hide (box_kpt (unhide HX) hg (unhide HL).1.1)
  have HA_1 : Hid (∀ A : World, A.heap.size ≤ base → Below A.heap.size A w → Below A.heap.size A w1) := fun A hA hb => grown_below (unhide HA A hA hb) hg (fun k hk => Nat.le_trans hA ((unhide HL).1.2 k hk))
  have HG_1 : Hid (∀ g vs, Box w g vs → NotIn g q h → Box w1 g vs) := fun g vs hb hn => box_kpt (unhide HG g vs hb hn) hg hn.1
  have O1_1 := hide (Own.kpt (unhide O1) hg (unhide HP).1.symm)
  have O2_1 := hide (DOwn.kpt (unhide O2) hg (unhide HP).2.1.symm)
  have O4_1 := hide (Own.kpt (unhide O4) hg (unhide HP).2.2.1.symm)
  have O5_1 := hide (Own.kpt (unhide O5) hg (unhide HP).2.2.2.1.symm)
  have O0_1 := hide m0
  clear HX HA HG O0 O1 O2 O4 O5 m0 hg
  have x0 := (unhide HX_1).cell 0 rfl
  have x1 := (unhide HX_1).cell 1 rfl
  have x2 := (unhide HX_1).cell 2 rfl
  have x4 := (unhide HX_1).cell 4 rfl
  have x5 := (unhide HX_1).cell 5 rfl
  go_wp2_with fail
  refine (markIg h.pu base (hk1 h) _ _ (unhide HS).2.1 (by have hs := unhide HS; simp only [Small] at hs; simp only [hk1]; omega) (unhide O1_1)).mono ?_
  rintro e w2 ⟨rfl, m1, hg⟩
  rw [show h.pu.length + hk1 h = hk2 h from rfl]
  have HX_2 := hide (box_kpt (unhide HX_1) hg (unhide HL).2.1.1)
  have HA_2 : Hid (∀ A : World, A.heap.size ≤ base → Below A.heap.size A w → Below A.heap.size A w2) := fun A hA hb => grown_below (unhide HA_1 A hA hb) hg (fun k hk => Nat.le_trans hA ((unhide HL).2.1.2 k hk))
  have HG_2 : Hid (∀ g vs, Box w g vs → NotIn g q h → Box w2 g vs) := fun g vs hb hn => box_kpt (unhide HG_1 g vs hb hn) hg hn.2.1
  have O0_2 := hide (ownsK (unhide O0_1) hg (unhide HP).1)
  have O2_2 := hide (DOwn.kpt (unhide O2_1) hg (unhide HP).2.2.2.2.1.symm)
  have O4_2 := hide (Own.kpt (unhide O4_1) hg (unhide HP).2.2.2.2.2.1.symm)
  have O5_2 := hide (Own.kpt (unhide O5_1) hg (unhide HP).2.2.2.2.2.2.1.symm)
  have O1_2 := hide m1
  clear HX_1 HA_1 HG_1 O0_1 O1_1 O2_1 O4_1 O5_1 m1 hg x0 x1 x2 x4 x5
  have x0 := (unhide HX_2).cell 0 rfl
  have x1 := (unhide HX_2).cell 1 rfl
  have x2 := (unhide HX_2).cell 2 rfl
  have x4 := (unhide HX_2).cell 4 rfl
  have x5 := (unhide HX_2).cell 5 rfl
  go_wp2_with fail
  refine (markDg h.ds base (hk2 h) _ _ (unhide HS).2.2.1 (by have hs := unhide HS; simp only [Small] at hs; simp only [hk2, hk1]; omega) (unhide O2_2)).mono ?_
  rintro e w3 ⟨rfl, m2, hg⟩
  rw [show 5 * h.ds.length + hk2 h = hk3 h from rfl]
  have HX_3 := hide (box_kpt (unhide HX_2) hg (unhide HL).2.2.1.1)
  have HA_3 : Hid (∀ A : World, A.heap.size ≤ base → Below A.heap.size A w → Below A.heap.size A w3) := fun A hA hb => grown_below (unhide HA_2 A hA hb) hg (fun k hk => Nat.le_trans hA ((unhide HL).2.2.1.2 k hk))
  have HG_3 : Hid (∀ g vs, Box w g vs → NotIn g q h → Box w3 g vs) := fun g vs hb hn => box_kpt (unhide HG_2 g vs hb hn) hg hn.2.2.1
  have O0_3 := hide (ownsK (unhide O0_2) hg (unhide HP).2.1)
  have O1_3 := hide (Own.kpt (unhide O1_2) hg (unhide HP).2.2.2.2.1)
  have O4_3 := hide (Own.kpt (unhide O4_2) hg (unhide HP).2.2.2.2.2.2.2.1.symm)
  have O5_3 := hide (Own.kpt (unhide O5_2) hg (unhide HP).2.2.2.2.2.2.2.2.1.symm)
  have O2_3 := hide m2
  clear HX_2 HA_2 HG_2 O0_2 O1_2 O2_2 O4_2 O5_2 m2 hg x0 x1 x2 x4 x5
  have x0 := (unhide HX_3).cell 0 rfl
  have x1 := (unhide HX_3).cell 1 rfl
  have x2 := (unhide HX_3).cell 2 rfl
  have x4 := (unhide HX_3).cell 4 rfl
  have x5 := (unhide HX_3).cell 5 rfl
  go_wp2_with fail
  refine (markIg h.nu base (hk3 h) _ _ (unhide HS).2.2.2.1 (by have hs := unhide HS; simp only [Small] at hs; simp only [hk3, hk2, hk1]; omega) (unhide O4_3)).mono ?_
  rintro e w4 ⟨rfl, m4, hg⟩
  rw [show h.nu.length + hk3 h = hk4 h from rfl]
  have HX_4 := hide (box_kpt (unhide HX_3) hg (unhide HL).2.2.2.1.1)
  have HA_4 : Hid (∀ A : World, A.heap.size ≤ base → Below A.heap.size A w → Below A.heap.size A w4) := fun A hA hb => grown_below (unhide HA_3 A hA hb) hg (fun k hk => Nat.le_trans hA ((unhide HL).2.2.2.1.2 k hk))
  have HG_4 : Hid (∀ g vs, Box w g vs → NotIn g q h → Box w4 g vs) := fun g vs hb hn => box_kpt (unhide HG_3 g vs hb hn) hg hn.2.2.2.1
  have O0_4 := hide (ownsK (unhide O0_3) hg (unhide HP).2.2.1)
  have O1_4 := hide (Own.kpt (unhide O1_3) hg (unhide HP).2.2.2.2.2.1)
  have O2_4 := hide (ownsK (unhide O2_3) hg (unhide HP).2.2.2.2.2.2.2.1)
  have O5_4 := hide (Own.kpt (unhide O5_3) hg (unhide HP).2.2.2.2.2.2.2.2.2.symm)
  have O4_4 := hide m4
  clear HX_3 HA_3 HG_3 O0_3 O1_3 O2_3 O4_3 O5_3 m4 hg x0 x1 x2 x4 x5
  have x0 := (unhide HX_4).cell 0 rfl
  have x1 := (unhide HX_4).cell 1 rfl
  have x2 := (unhide HX_4).cell 2 rfl
  have x4 := (unhide HX_4).cell 4 rfl
  have x5 := (unhide HX_4).cell 5 rfl
  go_wp2_with fail
  refine (markIg h.sa base (hk4 h) _ _ (unhide HS).2.2.2.2 (by have hs := unhide HS; simp only [Small] at hs; simp only [hk4, hk3, hk2, hk1]; omega) (unhide O5_4)).mono ?_
  rintro e w5 ⟨rfl, m5, hg⟩
  rw [show h.sa.length + hk4 h = hk5 h from rfl]
  have HX_5 := hide (box_kpt (unhide HX_4) hg (unhide HL).2.2.2.2.1)
  have HA_5 : Hid (∀ A : World, A.heap.size ≤ base → Below A.heap.size A w → Below A.heap.size A w5) := fun A hA hb => grown_below (unhide HA_4 A hA hb) hg (fun k hk => Nat.le_trans hA ((unhide HL).2.2.2.2.2 k hk))
  have HG_5 : Hid (∀ g vs, Box w g vs → NotIn g q h → Box w5 g vs) := fun g vs hb hn => box_kpt (unhide HG_4 g vs hb hn) hg hn.2.2.2.2
  have O0_5 := hide (ownsK (unhide O0_4) hg (unhide HP).2.2.2.1)
  have O1_5 := hide (Own.kpt (unhide O1_4) hg (unhide HP).2.2.2.2.2.2.1)
  have O2_5 := hide (ownsK (unhide O2_4) hg (unhide HP).2.2.2.2.2.2.2.2.1)
  have O4_5 := hide (Own.kpt (unhide O4_4) hg (unhide HP).2.2.2.2.2.2.2.2.2)
  have O5_5 := hide m5
  clear HX_4 HA_4 HG_4 O0_4 O1_4 O2_4 O4_4 O5_4 m5 hg x0 x1 x2 x4 x5
  go_wp2_with fail
  go_ret
  exact ⟨rfl, ⟨unhide O0_5, unhide O1_5, unhide O2_5, unhide O4_5, unhide O5_5⟩, unhide HA_5, unhide HG_5⟩

end Go.Proofs.Ytmlbphmbffkdnaa
