/-
  Texts of the proof, what it needs of them: Tickc.
-/
import Derived.Test.YtmlbphmbffkdnaaGt40
namespace Go.Proofs.Ytmlbphmbffkdnaa
open Go.RowKit
set_option linter.unusedVariables false
set_option maxRecDepth 100000

def BelB (b : Nat) (a w : World) : Prop := Below b a w
theorem Box.belB {W w : World} {B g : Nat} {vs : List Value} (h : Box W g vs) (hb : BelB B W w) (hg : g < B) : Box w g vs := fun j v hv => ⟨(World.cell?_of_block (a := ⟨g, j, none⟩) (hb.block g hg)).trans (h j v hv).1, (World.frozen?_of_block (a := ⟨g, j, none⟩) (hb.block g hg)).trans (h j v hv).2⟩
theorem belB_then {a b c : World} {B : Nat} (h : BelB B a b) (k : Below b.heap.size b c) (hl : B ≤ b.heap.size) : BelB B a c := ⟨k.os.trans h.os, k.tape.trans h.tape, k.output.trans h.output, Nat.le_trans h.size k.size, fun q hq => (k.block q (Nat.lt_of_lt_of_le hq hl)).trans (h.block q hq)⟩
theorem belB_put {a b : World} {B : Nat} (h : BelB B a b) (g i : Nat) (v : Value) (hg : B ≤ g) (hB : B ≤ b.heap.size) : BelB B a (b.setCell ⟨g, i, none⟩ v) := Below.grown h (grown_cel b g i v) hB (fun q hq => by cases hq; exact hg)
theorem below_trB {a b c : World} {A B : Nat} (h : Below A a b) (k : BelB B b c) (hl : A ≤ B) : Below A a c := ⟨k.os.trans h.os, k.tape.trans h.tape, k.output.trans h.output, Nat.le_trans h.size k.size, fun q hq => (k.block q (Nat.lt_of_lt_of_le hq hl)).trans (h.block q hq)⟩
theorem copies5g {w : World} {base : Nat} {es : List Tm.Ent} {pu : List Int} {ds : List Tm.Deal} {cl : Int} {nu sa : List Int} {n1 n2 : Nat} {b0 b1 b2 b4 b5 : Option Addr} {j0 j1 j2 j4 j5 : Nat} (h1 : pu.length = n1) (h2 : ds.length = n2) (fe : ∀ e ∈ es, FitE e) (fp : ∀ z ∈ pu, -9223372036854775808 ≤ z ∧ z ≤ 9223372036854775807) (fd : ∀ d ∈ ds, FitD d) (fn : ∀ z ∈ nu, -9223372036854775808 ≤ z ∧ z ≤ 9223372036854775807) (fs : ∀ z ∈ sa, -9223372036854775808 ≤ z ∧ z ≤ 9223372036854775807)
    (hL : Live w base [(134, 4, .slice b0 es.length j0, es.length, es.flatMap eCells), (3, 1, .slice b1 n1 j1, n1, pu.map (Value.int .i64)), (42, 5, .slice b2 n2 j2, n2, ds.flatMap dCells), (3, 1, .slice b4 nu.length j4, nu.length, nu.map (Value.int .i64)), (3, 1, .slice b5 sa.length j5, sa.length, sa.map (Value.int .i64))]) :
    HOwn w base ⟨b0, j0, b1, j1, b2, j2, b4, j4, b5, j5⟩ ⟨es, pu, ds, cl, nu, sa⟩ := by
  subst h1
  subst h2
  obtain ⟨h1, h2⟩ := hL
  simp only [List.mem_cons, List.not_mem_nil, or_false, forall_eq_or_imp, forall_eq] at h1
  simp only [List.pairwise_cons, List.mem_cons, List.not_mem_nil, or_false, forall_eq_or_imp, forall_eq] at h2
  obtain ⟨o0, o1, o2, o4, o5⟩ := h1
  obtain ⟨⟨p01, p02, p04, p05⟩, ⟨p12, p14, p15⟩, ⟨p24, p25⟩, p45, -⟩ := h2
  exact ⟨⟨fe, o0⟩, ⟨fp, o1⟩, ⟨fd, o2⟩, ⟨fn, o4⟩, ⟨fs, o5⟩, p01, p02, p04, p05, p12, p14, p15, p24, p25, p45⟩
theorem fit_tick {c : Int} {ds : List Tm.Deal} (h : ∀ d ∈ ds, FitD d) : ∀ d ∈ ds.map (tickD c), FitD d := by
  intro d hd
  obtain ⟨x, hx, rfl⟩ := List.mem_map.1 hd
  have h2 := h x hx
  unfold tickD
  split
  · obtain ⟨x0, x1, x2, x3, x4⟩ := x
    exact ⟨h2.1, h2.2.1, h2.2.2.1, (show Fit64 0 from ⟨by decide, by decide⟩), (show Fit64 0 from ⟨by decide, by decide⟩)⟩
  · exact h2
def mtickH (h : House) : House := if mktOk h = true then (if h.cl = 99999 then h else tickH h) else ⟨[], [], [], 0, [], []⟩
def mtickB (h : House) : Bool := mktOk h && !decide (h.cl = 99999)
def MTold (w : World) (h : House) (b : Bool) (e : Ending) (w' : World) : Prop := ∃ q, e = .returned (.tuple #[hV q h, .bool b]) ∧ HOwn w' w.heap.size q h ∧ Below w.heap.size w w'
theorem mt_no {h : House} (h1 : mktOk h = false) : mtickH h = ⟨[], [], [], 0, [], []⟩ ∧ mtickB h = false := by simp [mtickH, mtickB, h1]
theorem mt_end {h : House} (h1 : mktOk h = true) (h2 : h.cl = 99999) : mtickH h = h ∧ mtickB h = false := by simp [mtickH, mtickB, h1, h2]
theorem mt_go {h : House} (h1 : mktOk h = true) (h2 : ¬ h.cl = 99999) : mtickH h = tickH h ∧ mtickB h = true := by simp [mtickH, mtickB, h1, h2]
theorem zeroOwn (w : World) (base : Nat) (hb : base ≤ w.heap.size) : HOwn w base ⟨none, 0, none, 0, none, 0, none, 0, none, 0⟩ ⟨[], [], [], 0, [], []⟩ := by
  have ha : ∀ (n c m d : Nat), Apt (.slice none n c) (.slice none m d) := fun n c m d b hb => by simp [Value.ownBlock] at hb
  refine ⟨⟨fun e he => by simp at he, owns_nil w base 4 _ hb⟩, own_none w base hb, ⟨fun e he => by simp at he, owns_nil w base 5 _ hb⟩, own_none w base hb, own_none w base hb, ha _ _ _ _, ha _ _ _ _, ha _ _ _ _, ha _ _ _ _, ha _ _ _ _, ha _ _ _ _, ha _ _ _ _, ha _ _ _ _, ha _ _ _ _, ha _ _ _ _⟩
/-- what a market owns, list by list -/
theorem liveH {w : World} {base : Nat} {es : List Tm.Ent} {pu : List Int} {ds : List Tm.Deal} {cl : Int} {nu sa : List Int} {b0 b1 b2 b4 b5 : Option Addr} {j0 j1 j2 j4 j5 : Nat} (o : HOwn w base ⟨b0, j0, b1, j1, b2, j2, b4, j4, b5, j5⟩ ⟨es, pu, ds, cl, nu, sa⟩) :
    Live w base [(134, 4, .slice b0 es.length j0, es.length, es.flatMap eCells), (3, 1, .slice b1 pu.length j1, pu.length, pu.map (Value.int .i64)), (42, 5, .slice b2 ds.length j2, ds.length, ds.flatMap dCells), (3, 1, .slice b4 nu.length j4, nu.length, nu.map (Value.int .i64)), (3, 1, .slice b5 sa.length j5, sa.length, sa.map (Value.int .i64))] := by
  obtain ⟨o0, o1, o2, o4, o5, p01, p02, p04, p05, p12, p14, p15, p24, p25, p45⟩ := o
  refine ⟨fun x hx => ?_, ?_⟩
  · simp only [List.mem_cons, List.not_mem_nil, or_false] at hx
    rcases hx with rfl | rfl | rfl | rfl | rfl
    · exact o0.2
    · exact o1.2
    · exact o2.2
    · exact o4.2
    · exact o5.2
  · simp only [List.pairwise_cons, List.mem_cons, List.not_mem_nil, or_false, forall_eq_or_imp, forall_eq]
    exact ⟨⟨p01, p02, p04, p05⟩, ⟨p12, p14, p15⟩, ⟨p24, p25⟩, p45, fun a ha => ha.elim, List.Pairwise.nil⟩
theorem live_put {w : World} {base : Nat} {A C : List LRow} {T n g m c : Nat} {cs : List Value} (h : Live w base (A ++ (T, n, .slice (some ⟨g, 0, none⟩) m c, m, cs) :: C)) (j : Nat) (v : Value) : Live (w.setCell ⟨g, j, none⟩ v) base (A ++ (T, n, .slice (some ⟨g, 0, none⟩) m c, m, cs.set j v) :: C) := by
  have h1 := ((live_pair.1 h).2.1).stored j v
  exact live_grow h h1.2 h1.1 (.inl rfl)
theorem boxRow2 {w : World} {base g t n : Nat} {cs : List Value} (h : w.ownsRow base t n (.slice (some ⟨g, 0, none⟩) 1 1) 1 cs) : Box w g cs := by
  intro j v hv
  have hl : j < 1 * n := by
    have h1 := (List.getElem?_eq_some_iff.1 hv).1
    have h2 := h.1
    omega
  exact ⟨by rw [h.cellAt j hl]; exact hv, h.frozenAt j⟩
theorem row_some {w : World} {base t n m : Nat} {a : Option Addr} {c : Nat} {cs : List Value} (h : w.ownsRow base t n (.slice a m c) m cs) (hm : 0 < m) : ∃ g, a = some ⟨g, 0, none⟩ := by
  rcases h.2 with ⟨e, _⟩ | ⟨g, cap, cur, e, _⟩
  · simp at e; omega
  · simp only [Value.slice.injEq] at e; exact ⟨g, e.1⟩
theorem deal_cell {w : World} {base g n c : Nat} {ds : List Tm.Deal} {k : Nat} {x : Tm.Deal} (h : w.ownsRow base 42 5 (.slice (some ⟨g, 0, none⟩) n c) n (ds.flatMap dCells)) (hx : ds[k]? = some x) (hn : ds.length = n) : ∀ i v, (dCells x)[i]? = some v → i < 5 → w.cell? ⟨g, k * 5 + i, none⟩ = some v := by
  intro i v hv hi
  obtain ⟨hl, hx⟩ := List.getElem?_eq_some_iff.1 hx
  rw [h.cellAt (k * 5 + i) (by omega)]
  have e : ds = ds.take k ++ ds[k] :: ds.drop (k + 1) := by rw [← List.drop_eq_getElem_cons hl, List.take_append_drop]
  rw [e, List.flatMap_append, List.flatMap_cons, hx]
  have hlen : ((ds.take k).flatMap dCells).length = k * 5 := by rw [flat_len dCells 5 dCells_len, List.length_take]; congr 1; omega
  rw [List.getElem?_append_right (by omega), hlen, show k * 5 + i - k * 5 = i by omega, List.getElem?_append_left (by rw [dCells_len]; omega)]
  exact hv

set_option maxHeartbeats 8000000 in
theorem c31 (h : House) (q : HP) (w : World) (hs : Small h) (hz : HLen2 q) (hr : HRow w q h) : Calls Try.prog 31 #[hV q h] w (MTold w (mtickH h) (mtickB h)) := by
  have HZQ := hide hz
  clear hz
  obtain ⟨es, pu, ds, cl, nu, sa⟩ := h
  obtain ⟨a0, k0, a1, k1, a2, k2, a4, k4, a5, k5⟩ := q
  have HRR := hide hr
  have HSM := hide hs
  clear hr hs
  have HB := hide (Below.refl w.heap.size w)
  replace HB := hide (below_al (o := .cells #[.slice a0 es.length k0, .slice a1 pu.length k1, .slice a2 ds.length k2, .int .i64 cl, .slice a4 nu.length k4, .slice a5 sa.length k5] 28) (unhide HB))
  replace HRR := hide ((unhide HRR).bel (below_a (.cells #[.slice a0 es.length k0, .slice a1 pu.length k1, .slice a2 ds.length k2, .int .i64 cl, .slice a4 nu.length k4, .slice a5 sa.length k5] 28)))
  have HX := hide (box_new w [.slice a0 es.length k0, .slice a1 pu.length k1, .slice a2 ds.length k2, .int .i64 cl, .slice a4 nu.length k4, .slice a5 sa.length k5] 28 (by simp [Value.oneCell']))
  (try simp only [World.size_alloc] at HX)
  replace HB := hide (below_al (o := .cells #[.slice none 0 0, .slice none 0 0, .slice none 0 0, .int .i64 0, .slice none 0 0, .slice none 0 0] 28) (unhide HB))
  replace HRR := hide ((unhide HRR).bel (below_a (.cells #[.slice none 0 0, .slice none 0 0, .slice none 0 0, .int .i64 0, .slice none 0 0, .slice none 0 0] 28)))
  replace HX := hide ((unhide HX).bel (below_a (.cells #[.slice none 0 0, .slice none 0 0, .slice none 0 0, .int .i64 0, .slice none 0 0, .slice none 0 0] 28)))
  have HY := hide (box_new (w.alloc (.cells #[.slice a0 es.length k0, .slice a1 pu.length k1, .slice a2 ds.length k2, .int .i64 cl, .slice a4 nu.length k4, .slice a5 sa.length k5] 28)) [.slice none 0 0, .slice none 0 0, .slice none 0 0, .int .i64 0, .slice none 0 0, .slice none 0 0] 28 (by simp [Value.oneCell']))
  (try simp only [World.size_alloc] at HY)
  have x0 := (unhide HX).cell 0 rfl
  have x1 := (unhide HX).cell 1 rfl
  have x2 := (unhide HX).cell 2 rfl
  have x3 := (unhide HX).cell 3 rfl
  have x4 := (unhide HX).cell 4 rfl
  have x5 := (unhide HX).cell 5 rfl
  have y0 := (unhide HY).cell 0 rfl
  have y0f := (unhide HY).frozen 0 rfl
  have y1 := (unhide HY).cell 1 rfl
  have y1f := (unhide HY).frozen 1 rfl
  have y2 := (unhide HY).cell 2 rfl
  have y2f := (unhide HY).frozen 2 rfl
  have y3 := (unhide HY).cell 3 rfl
  have y3f := (unhide HY).frozen 3 rfl
  have y4 := (unhide HY).cell 4 rfl
  have y4f := (unhide HY).frozen 4 rfl
  have y5 := (unhide HY).cell 5 rfl
  have y5f := (unhide HY).frozen 5 rfl
  go_enter Try.func31, Try.ntmps31
  go_wp2_with fail
  rcases h1 : mktOk ⟨es, pu, ds, cl, nu, sa⟩ with _ | _
  case false =>
    as_aux_lemma =>
      have hg := mt_no h1
      refine (c26 ⟨es, pu, ds, cl, nu, sa⟩ ⟨a0, k0, a1, k1, a2, k2, a4, k4, a5, k5⟩ _ (unhide HSM) (unhide HRR)).mono ?_
      rintro e w1 ⟨rfl, hb⟩
      rw [h1]
      (try clear x0 x1 x2 x3 x4 x5 y0 y0f y1 y1f y2 y2f y3 y3f y4 y4f y5 y5f)
      replace HB := hide (below_tr (unhide HB) hb)
      replace HRR := hide ((unhide HRR).bel hb)
      replace HX := hide ((unhide HX).bel hb)
      replace HY := hide ((unhide HY).bel hb)
      clear hb
      have x0 := (unhide HX).cell 0 rfl
      have x1 := (unhide HX).cell 1 rfl
      have x2 := (unhide HX).cell 2 rfl
      have x3 := (unhide HX).cell 3 rfl
      have x4 := (unhide HX).cell 4 rfl
      have x5 := (unhide HX).cell 5 rfl
      have y0 := (unhide HY).cell 0 rfl
      have y0f := (unhide HY).frozen 0 rfl
      have y1 := (unhide HY).cell 1 rfl
      have y1f := (unhide HY).frozen 1 rfl
      have y2 := (unhide HY).cell 2 rfl
      have y2f := (unhide HY).frozen 2 rfl
      have y3 := (unhide HY).cell 3 rfl
      have y3f := (unhide HY).frozen 3 rfl
      have y4 := (unhide HY).cell 4 rfl
      have y4f := (unhide HY).frozen 4 rfl
      have y5 := (unhide HY).cell 5 rfl
      have y5f := (unhide HY).frozen 5 rfl
      go_wp2_with fail
      (try clear x0 x1 x2 x3 x4 x5 y0 y0f y1 y1f y2 y2f y3 y3f y4 y4f y5 y5f)
      (try clear x0 x1 x2 x3 x4 x5 y0 y0f y1 y1f y2 y2f y3 y3f y4 y4f y5 y5f)
      replace HX := hide ((unhide HX).oth (g' := w.heap.size + 1) (i := 0) (.slice none 0 0) (by omega))
      replace HY := hide (box_put (unhide HY) 0 (.slice none 0 0) (by simp))
      replace HB := hide (below_sc (p := ⟨w.heap.size + 1, 0, none⟩) (v := .slice none 0 0) (unhide HB) (by dsimp only; omega))
      replace HX := hide ((unhide HX).oth (g' := w.heap.size + 1) (i := 1) (.slice none 0 0) (by omega))
      replace HY := hide (box_put (unhide HY) 1 (.slice none 0 0) (by simp))
      replace HB := hide (below_sc (p := ⟨w.heap.size + 1, 1, none⟩) (v := .slice none 0 0) (unhide HB) (by dsimp only; omega))
      replace HX := hide ((unhide HX).oth (g' := w.heap.size + 1) (i := 2) (.slice none 0 0) (by omega))
      replace HY := hide (box_put (unhide HY) 2 (.slice none 0 0) (by simp))
      replace HB := hide (below_sc (p := ⟨w.heap.size + 1, 2, none⟩) (v := .slice none 0 0) (unhide HB) (by dsimp only; omega))
      replace HX := hide ((unhide HX).oth (g' := w.heap.size + 1) (i := 3) (.int .i64 0) (by omega))
      replace HY := hide (box_put (unhide HY) 3 (.int .i64 0) (by simp))
      replace HB := hide (below_sc (p := ⟨w.heap.size + 1, 3, none⟩) (v := .int .i64 0) (unhide HB) (by dsimp only; omega))
      replace HX := hide ((unhide HX).oth (g' := w.heap.size + 1) (i := 4) (.slice none 0 0) (by omega))
      replace HY := hide (box_put (unhide HY) 4 (.slice none 0 0) (by simp))
      replace HB := hide (below_sc (p := ⟨w.heap.size + 1, 4, none⟩) (v := .slice none 0 0) (unhide HB) (by dsimp only; omega))
      replace HX := hide ((unhide HX).oth (g' := w.heap.size + 1) (i := 5) (.slice none 0 0) (by omega))
      replace HY := hide (box_put (unhide HY) 5 (.slice none 0 0) (by simp))
      replace HB := hide (below_sc (p := ⟨w.heap.size + 1, 5, none⟩) (v := .slice none 0 0) (unhide HB) (by dsimp only; omega))
      replace HY := hide (show Box _ (w.heap.size + 1) [.slice none 0 0, .slice none 0 0, .slice none 0 0, .int .i64 0, .slice none 0 0, .slice none 0 0] from unhide HY)
      have x0 := (unhide HX).cell 0 rfl
      have x1 := (unhide HX).cell 1 rfl
      have x2 := (unhide HX).cell 2 rfl
      have x3 := (unhide HX).cell 3 rfl
      have x4 := (unhide HX).cell 4 rfl
      have x5 := (unhide HX).cell 5 rfl
      have y0 := (unhide HY).cell 0 rfl
      have y1 := (unhide HY).cell 1 rfl
      have y2 := (unhide HY).cell 2 rfl
      have y3 := (unhide HY).cell 3 rfl
      have y4 := (unhide HY).cell 4 rfl
      have y5 := (unhide HY).cell 5 rfl
      refine bodyPost_ret (v := .tuple #[.agg #[.slice none 0 0, .slice none 0 0, .slice none 0 0, .int .i64 0, .slice none 0 0, .slice none 0 0], .bool false]) (results_ct Try.results31 rfl (load_house (unhide HY))) rfl ?_
      show MTold w (mtickH ⟨es, pu, ds, cl, nu, sa⟩) (mtickB ⟨es, pu, ds, cl, nu, sa⟩) _ _
      rw [hg.1, hg.2]
      exact ⟨⟨none, 0, none, 0, none, 0, none, 0, none, 0⟩, rfl, zeroOwn _ _ (unhide HB).size, unhide HB⟩
  refine (c26 ⟨es, pu, ds, cl, nu, sa⟩ ⟨a0, k0, a1, k1, a2, k2, a4, k4, a5, k5⟩ _ (unhide HSM) (unhide HRR)).mono ?_
  rintro e w1 ⟨rfl, hb⟩
  rw [h1]
  (try clear x0 x1 x2 x3 x4 x5 y0 y0f y1 y1f y2 y2f y3 y3f y4 y4f y5 y5f)
  replace HB := hide (below_tr (unhide HB) hb)
  replace HRR := hide ((unhide HRR).bel hb)
  replace HX := hide ((unhide HX).bel hb)
  replace HY := hide ((unhide HY).bel hb)
  clear hb
  have x0 := (unhide HX).cell 0 rfl
  have x1 := (unhide HX).cell 1 rfl
  have x2 := (unhide HX).cell 2 rfl
  have x3 := (unhide HX).cell 3 rfl
  have x4 := (unhide HX).cell 4 rfl
  have x5 := (unhide HX).cell 5 rfl
  have y0 := (unhide HY).cell 0 rfl
  have y0f := (unhide HY).frozen 0 rfl
  have y1 := (unhide HY).cell 1 rfl
  have y1f := (unhide HY).frozen 1 rfl
  have y2 := (unhide HY).cell 2 rfl
  have y2f := (unhide HY).frozen 2 rfl
  have y3 := (unhide HY).cell 3 rfl
  have y3f := (unhide HY).frozen 3 rfl
  have y4 := (unhide HY).cell 4 rfl
  have y4f := (unhide HY).frozen 4 rfl
  have y5 := (unhide HY).cell 5 rfl
  have y5f := (unhide HY).frozen 5 rfl
  go_wp2_with fail
  have hgy1 := (unhide HY).lt
  refine (c117 ⟨es, pu, ds, cl, nu, sa⟩ ⟨a0, k0, a1, k1, a2, k2, a4, k4, a5, k5⟩ _ (unhide HSM) (unhide HZQ) (unhide HRR)).mono ?_
  rintro e w2 ⟨⟨b0, j0, b1, j1, b2, j2, b4, j4, b5, j5⟩, rfl, ho, hb⟩
  have hgy2 := Nat.lt_of_lt_of_le hgy1 hb.size
  have h12 := hb.size
  (try clear x0 x1 x2 x3 x4 x5 y0 y0f y1 y1f y2 y2f y3 y3f y4 y4f y5 y5f)
  replace HB := hide (below_tr (unhide HB) hb)
  replace HRR := hide ((unhide HRR).bel hb)
  replace HX := hide ((unhide HX).bel hb)
  replace HY := hide ((unhide HY).bel hb)
  have HO := hide (ho)
  clear hb ho
  have x0 := (unhide HX).cell 0 rfl
  have x1 := (unhide HX).cell 1 rfl
  have x2 := (unhide HX).cell 2 rfl
  have x3 := (unhide HX).cell 3 rfl
  have x4 := (unhide HX).cell 4 rfl
  have x5 := (unhide HX).cell 5 rfl
  have y0 := (unhide HY).cell 0 rfl
  have y0f := (unhide HY).frozen 0 rfl
  have y1 := (unhide HY).cell 1 rfl
  have y1f := (unhide HY).frozen 1 rfl
  have y2 := (unhide HY).cell 2 rfl
  have y2f := (unhide HY).frozen 2 rfl
  have y3 := (unhide HY).cell 3 rfl
  have y3f := (unhide HY).frozen 3 rfl
  have y4 := (unhide HY).cell 4 rfl
  have y4f := (unhide HY).frozen 4 rfl
  have y5 := (unhide HY).cell 5 rfl
  have y5f := (unhide HY).frozen 5 rfl
  by_cases h2 : cl = 99999
  case pos =>
    as_aux_lemma =>
      have hg := mt_end (h := ⟨es, pu, ds, cl, nu, sa⟩) h1 h2
      have hcl : (cl == 99999) = true := by rw [beq_iff_eq]; exact h2
      clear h1 h2
      (try clear x0 x1 x2 x3 x4 x5 y0 y0f y1 y1f y2 y2f y3 y3f y4 y4f y5 y5f)
      have HY2 := hide (unhide HY)
      have HO2 := hide (unhide HO)
      have HB2 := hide (unhide HB)
      have uf0 := (unhide HY).frozen 0 rfl
      have uc0 := (unhide HY).cell 0 rfl
      have uf1 := (unhide HY).frozen 1 rfl
      have uc1 := (unhide HY).cell 1 rfl
      have uf2 := (unhide HY).frozen 2 rfl
      have uc2 := (unhide HY).cell 2 rfl
      have uf3 := (unhide HY).frozen 3 rfl
      have uc3 := (unhide HY).cell 3 rfl
      have uf4 := (unhide HY).frozen 4 rfl
      have uc4 := (unhide HY).cell 4 rfl
      have uf5 := (unhide HY).frozen 5 rfl
      have uc5 := (unhide HY).cell 5 rfl
      (try clear x0 x1 x2 x3 x4 x5 y0 y0f y1 y1f y2 y2f y3 y3f y4 y4f y5 y5f)
      replace HB := hide (below_al (o := .cells #[.slice b0 es.length j0, .slice b1 pu.length j1, .slice b2 ds.length j2, .int .i64 cl, .slice b4 nu.length j4, .slice b5 sa.length j5] 28) (unhide HB))
      replace HRR := hide ((unhide HRR).bel (below_a (.cells #[.slice b0 es.length j0, .slice b1 pu.length j1, .slice b2 ds.length j2, .int .i64 cl, .slice b4 nu.length j4, .slice b5 sa.length j5] 28)))
      replace HX := hide ((unhide HX).bel (below_a (.cells #[.slice b0 es.length j0, .slice b1 pu.length j1, .slice b2 ds.length j2, .int .i64 cl, .slice b4 nu.length j4, .slice b5 sa.length j5] 28)))
      replace HY := hide ((unhide HY).bel (below_a (.cells #[.slice b0 es.length j0, .slice b1 pu.length j1, .slice b2 ds.length j2, .int .i64 cl, .slice b4 nu.length j4, .slice b5 sa.length j5] 28)))
      replace HO := hide ((unhide HO).bel (below_a (.cells #[.slice b0 es.length j0, .slice b1 pu.length j1, .slice b2 ds.length j2, .int .i64 cl, .slice b4 nu.length j4, .slice b5 sa.length j5] 28)))
      have HQ := hide (box_new w2 [.slice b0 es.length j0, .slice b1 pu.length j1, .slice b2 ds.length j2, .int .i64 cl, .slice b4 nu.length j4, .slice b5 sa.length j5] 28 (by simp [Value.oneCell']))
      have x0 := (unhide HX).cell 0 rfl
      have x1 := (unhide HX).cell 1 rfl
      have x2 := (unhide HX).cell 2 rfl
      have x3 := (unhide HX).cell 3 rfl
      have x4 := (unhide HX).cell 4 rfl
      have x5 := (unhide HX).cell 5 rfl
      have y0 := (unhide HY).cell 0 rfl
      have y0f := (unhide HY).frozen 0 rfl
      have y1 := (unhide HY).cell 1 rfl
      have y1f := (unhide HY).frozen 1 rfl
      have y2 := (unhide HY).cell 2 rfl
      have y2f := (unhide HY).frozen 2 rfl
      have y3 := (unhide HY).cell 3 rfl
      have y3f := (unhide HY).frozen 3 rfl
      have y4 := (unhide HY).cell 4 rfl
      have y4f := (unhide HY).frozen 4 rfl
      have y5 := (unhide HY).cell 5 rfl
      have y5f := (unhide HY).frozen 5 rfl
      have q0 := (unhide HQ).cell 0 rfl
      have q1 := (unhide HQ).cell 1 rfl
      have q2 := (unhide HQ).cell 2 rfl
      have q3 := (unhide HQ).cell 3 rfl
      have q4 := (unhide HQ).cell 4 rfl
      have q5 := (unhide HQ).cell 5 rfl
      go_wp2_with fail
      (try clear x0 x1 x2 x3 x4 x5 y0 y0f y1 y1f y2 y2f y3 y3f y4 y4f y5 y5f q0 q1 q2 q3 q4 q5)
      clear HY HO HB HQ HX HRR uf0 uc0 uf1 uc1 uf2 uc2 uf3 uc3 uf4 uc4 uf5 uc5
      have HY := HY2
      have HO := HO2
      have HB := HB2
      clear HY2 HO2 HB2
      replace HY := hide (box_put (unhide HY) 0 (.slice b0 es.length j0) (by simp))
      replace HO := hide ((unhide HO).kg (grown_cel _ (w.heap.size + 1) 0 (.slice b0 es.length j0)) (by omega))
      replace HB := hide (below_sc (p := ⟨w.heap.size + 1, 0, none⟩) (v := .slice b0 es.length j0) (unhide HB) (by dsimp only; omega))
      replace HY := hide (box_put (unhide HY) 1 (.slice b1 pu.length j1) (by simp))
      replace HO := hide ((unhide HO).kg (grown_cel _ (w.heap.size + 1) 1 (.slice b1 pu.length j1)) (by omega))
      replace HB := hide (below_sc (p := ⟨w.heap.size + 1, 1, none⟩) (v := .slice b1 pu.length j1) (unhide HB) (by dsimp only; omega))
      replace HY := hide (box_put (unhide HY) 2 (.slice b2 ds.length j2) (by simp))
      replace HO := hide ((unhide HO).kg (grown_cel _ (w.heap.size + 1) 2 (.slice b2 ds.length j2)) (by omega))
      replace HB := hide (below_sc (p := ⟨w.heap.size + 1, 2, none⟩) (v := .slice b2 ds.length j2) (unhide HB) (by dsimp only; omega))
      replace HY := hide (box_put (unhide HY) 3 (.int .i64 cl) (by simp))
      replace HO := hide ((unhide HO).kg (grown_cel _ (w.heap.size + 1) 3 (.int .i64 cl)) (by omega))
      replace HB := hide (below_sc (p := ⟨w.heap.size + 1, 3, none⟩) (v := .int .i64 cl) (unhide HB) (by dsimp only; omega))
      replace HY := hide (box_put (unhide HY) 4 (.slice b4 nu.length j4) (by simp))
      replace HO := hide ((unhide HO).kg (grown_cel _ (w.heap.size + 1) 4 (.slice b4 nu.length j4)) (by omega))
      replace HB := hide (below_sc (p := ⟨w.heap.size + 1, 4, none⟩) (v := .slice b4 nu.length j4) (unhide HB) (by dsimp only; omega))
      replace HY := hide (box_put (unhide HY) 5 (.slice b5 sa.length j5) (by simp))
      replace HO := hide ((unhide HO).kg (grown_cel _ (w.heap.size + 1) 5 (.slice b5 sa.length j5)) (by omega))
      replace HB := hide (below_sc (p := ⟨w.heap.size + 1, 5, none⟩) (v := .slice b5 sa.length j5) (unhide HB) (by dsimp only; omega))
      replace HY := hide (show Box _ (w.heap.size + 1) [.slice b0 es.length j0, .slice b1 pu.length j1, .slice b2 ds.length j2, .int .i64 cl, .slice b4 nu.length j4, .slice b5 sa.length j5] from unhide HY)
      replace HB := hide (below_al (o := .cells #[.slice b0 es.length j0, .slice b1 pu.length j1, .slice b2 ds.length j2, .int .i64 cl, .slice b4 nu.length j4, .slice b5 sa.length j5] 28) (unhide HB))
      replace HY := hide ((unhide HY).bel (below_a (.cells #[.slice b0 es.length j0, .slice b1 pu.length j1, .slice b2 ds.length j2, .int .i64 cl, .slice b4 nu.length j4, .slice b5 sa.length j5] 28)))
      replace HO := hide ((unhide HO).bel (below_a (.cells #[.slice b0 es.length j0, .slice b1 pu.length j1, .slice b2 ds.length j2, .int .i64 cl, .slice b4 nu.length j4, .slice b5 sa.length j5] 28)))
      refine bodyPost_ret (v := .tuple #[.agg #[.slice b0 es.length j0, .slice b1 pu.length j1, .slice b2 ds.length j2, .int .i64 cl, .slice b4 nu.length j4, .slice b5 sa.length j5], .bool false]) (results_ct Try.results31 rfl (load_house (unhide HY))) rfl ?_
      show MTold w (mtickH ⟨es, pu, ds, cl, nu, sa⟩) (mtickB ⟨es, pu, ds, cl, nu, sa⟩) _ _
      rw [hg.1, hg.2]
      exact ⟨⟨b0, j0, b1, j1, b2, j2, b4, j4, b5, j5⟩, rfl, (unhide HO).lower (by omega), unhide HB⟩
  have hg := mt_go (h := ⟨es, pu, ds, cl, nu, sa⟩) h1 h2
  have hcl : (cl == 99999) = false := by rw [beq_eq_false_iff_ne]; exact h2
  (try clear x0 x1 x2 x3 x4 x5 y0 y0f y1 y1f y2 y2f y3 y3f y4 y4f y5 y5f)
  have hmo := h1
  clear h1
  have hcl2 : 0 ≤ cl ∧ cl ≤ 99999 := by
    rcases e : decide (0 ≤ cl ∧ cl ≤ 99999) with _ | _
    · rw [mo_3 (h := ⟨es, pu, ds, cl, nu, sa⟩) e] at hmo; cases hmo
    · simpa using e
  have hpr : Prices ds := by
    rcases e : dealsFrom (foldRows es) cl (-1) ds with _ | _
    · rw [mo_4 (h := ⟨es, pu, ds, cl, nu, sa⟩) e] at hmo; cases hmo
    · exact deals_prices _ _ e
  have HPR := hide hpr
  have HH2 := hide h2
  clear hmo hpr h2
  have hwc : IntKind.i64.wrap (cl + 1) = cl + 1 := wrap_sub (by omega) (by omega)
  have hL2 := live_new (A := []) (C := [(134, 4, .slice b0 es.length j0, es.length, es.flatMap eCells), (3, 1, .slice b1 pu.length j1, pu.length, (pu).map (Value.int .i64)), (42, 5, .slice b2 ds.length j2, ds.length, (ds).flatMap dCells), (3, 1, .slice b4 nu.length j4, nu.length, nu.map (Value.int .i64)), (3, 1, .slice b5 sa.length j5, sa.length, sa.map (Value.int .i64))]) (T := 28) (n := 6) (v := .slice (some ⟨w2.heap.size, 0, none⟩) 1 1) (m := 1) (cs := [.slice b0 es.length j0, .slice b1 pu.length j1, .slice b2 ds.length j2, .int .i64 (cl + 1), .slice b4 nu.length j4, .slice b5 sa.length j5]) (liveH (unhide HO)) (below_a (.cells #[.slice b0 es.length j0, .slice b1 pu.length j1, .slice b2 ds.length j2, .int .i64 (cl + 1), .slice b4 nu.length j4, .slice b5 sa.length j5] 28)) (World.ownsRow_lit w2 #[.slice b0 es.length j0, .slice b1 pu.length j1, .slice b2 ds.length j2, .int .i64 (cl + 1), .slice b4 nu.length j4, .slice b5 sa.length j5] 1 h12 (by decide) rfl) (fun k hk => by simp [Value.ownBlock] at hk; omega)
  have HL := hide hL2
  clear hL2
  have HFE := hide (unhide HO).1.1
  have HFP := hide (unhide HO).2.1.1
  have HFD := hide (unhide HO).2.2.1.1
  have HFN := hide (unhide HO).2.2.2.1.1
  have HFS := hide (unhide HO).2.2.2.2.1.1
  clear HO
  have HB2 := hide (unhide HB)
  have HY2 := hide (unhide HY)
  (try clear x0 x1 x2 x3 x4 x5 y0 y0f y1 y1f y2 y2f y3 y3f y4 y4f y5 y5f)
  (try clear x0 x1 x2 x3 x4 x5)
  replace HB := hide (below_al (o := .cells #[.slice b0 es.length j0, .slice b1 pu.length j1, .slice b2 ds.length j2, .int .i64 cl, .slice b4 nu.length j4, .slice b5 sa.length j5] 28) (unhide HB))
  replace HRR := hide ((unhide HRR).bel (below_a (.cells #[.slice b0 es.length j0, .slice b1 pu.length j1, .slice b2 ds.length j2, .int .i64 cl, .slice b4 nu.length j4, .slice b5 sa.length j5] 28)))
  replace HX := hide ((unhide HX).bel (below_a (.cells #[.slice b0 es.length j0, .slice b1 pu.length j1, .slice b2 ds.length j2, .int .i64 cl, .slice b4 nu.length j4, .slice b5 sa.length j5] 28)))
  replace HY := hide ((unhide HY).bel (below_a (.cells #[.slice b0 es.length j0, .slice b1 pu.length j1, .slice b2 ds.length j2, .int .i64 cl, .slice b4 nu.length j4, .slice b5 sa.length j5] 28)))
  have HQ := hide (box_new w2 [.slice b0 es.length j0, .slice b1 pu.length j1, .slice b2 ds.length j2, .int .i64 cl, .slice b4 nu.length j4, .slice b5 sa.length j5] 28 (by simp [Value.oneCell']))
  have x0 := (unhide HX).cell 0 rfl
  have x1 := (unhide HX).cell 1 rfl
  have x2 := (unhide HX).cell 2 rfl
  have x3 := (unhide HX).cell 3 rfl
  have x4 := (unhide HX).cell 4 rfl
  have x5 := (unhide HX).cell 5 rfl
  have q0 := (unhide HQ).cell 0 rfl
  have q0f := (unhide HQ).frozen 0 rfl
  have q1 := (unhide HQ).cell 1 rfl
  have q1f := (unhide HQ).frozen 1 rfl
  have q2 := (unhide HQ).cell 2 rfl
  have q2f := (unhide HQ).frozen 2 rfl
  have q3 := (unhide HQ).cell 3 rfl
  have q3f := (unhide HQ).frozen 3 rfl
  have q4 := (unhide HQ).cell 4 rfl
  have q4f := (unhide HQ).frozen 4 rfl
  have q5 := (unhide HQ).cell 5 rfl
  have q5f := (unhide HQ).frozen 5 rfl
  go_wp2_with fail
  (try clear x0 x1 x2 x3 x4 x5 q0 q0f q1 q1f q2 q2f q3 q3f q4 q4f q5 q5f)
  clear HQ HB HY HX HRR
  have HB := hide (below_al (o := .cells #[.slice b0 es.length j0, .slice b1 pu.length j1, .slice b2 ds.length j2, .int .i64 (cl + 1), .slice b4 nu.length j4, .slice b5 sa.length j5] 28) (unhide HB2))
  have HY := hide ((unhide HY2).bel (below_a (.cells #[.slice b0 es.length j0, .slice b1 pu.length j1, .slice b2 ds.length j2, .int .i64 (cl + 1), .slice b4 nu.length j4, .slice b5 sa.length j5] 28)))
  clear HB2 HY2
  generalize w2.alloc (.cells #[.slice b0 es.length j0, .slice b1 pu.length j1, .slice b2 ds.length j2, .int .i64 (cl + 1), .slice b4 nu.length j4, .slice b5 sa.length j5] 28) = WL at *
  generalize w2.heap.size = G at *
  have HY0 := hide (unhide HY)
  have HB0 := hide (unhide HB)
  have h1w : w.heap.size + 1 < w1.heap.size := hgy1
  have hL0 : Live WL w1.heap.size [(28, 6, .slice (some ⟨G, 0, none⟩) 1 1, 1, [.slice b0 es.length j0, .slice b1 pu.length j1, .slice b2 ds.length j2, .int .i64 (cl + 1), .slice b4 nu.length j4, .slice b5 sa.length j5]), (134, 4, .slice b0 es.length j0, es.length, es.flatMap eCells), (3, 1, .slice b1 pu.length j1, pu.length, (tickP (cl + 1) pu (ds.take 0)).map (Value.int .i64)), (42, 5, .slice b2 ds.length j2, ds.length, (tickTo (cl + 1) ds 0).flatMap dCells), (3, 1, .slice b4 nu.length j4, nu.length, nu.map (Value.int .i64)), (3, 1, .slice b5 sa.length j5, sa.length, sa.map (Value.int .i64))] := by rw [tickTo_zero, List.take_zero]; exact unhide HL
  have hf0 : ∀ z ∈ tickP (cl + 1) pu (ds.take 0), -9223372036854775808 ≤ z ∧ z ≤ 9223372036854775807 := by rw [List.take_zero]; exact unhide HFP
  have hWL := (hL0.1 (28, 6, .slice (some ⟨G, 0, none⟩) 1 1, 1, [.slice b0 es.length j0, .slice b1 pu.length j1, .slice b2 ds.length j2, .int .i64 (cl + 1), .slice b4 nu.length j4, .slice b5 sa.length j5]) (by simp)).lt G rfl
  have hWL2 : w1.heap.size ≤ WL.heap.size := by omega
  clear hWL HL HFP
  go_loopw [24] (fun i wr => ∃ (k : Nat) (c1 : Option Addr) (l1 : Nat), k ≤ ds.length ∧ i = .int .i64 k ∧ Live wr w1.heap.size [(28, 6, .slice (some ⟨G, 0, none⟩) 1 1, 1, [.slice b0 es.length j0, .slice c1 pu.length l1, .slice b2 ds.length j2, .int .i64 (cl + 1), .slice b4 nu.length j4, .slice b5 sa.length j5]), (134, 4, .slice b0 es.length j0, es.length, es.flatMap eCells), (3, 1, .slice c1 pu.length l1, pu.length, (tickP (cl + 1) pu (ds.take k)).map (Value.int .i64)), (42, 5, .slice b2 ds.length j2, ds.length, (tickTo (cl + 1) ds k).flatMap dCells), (3, 1, .slice b4 nu.length j4, nu.length, nu.map (Value.int .i64)), (3, 1, .slice b5 sa.length j5, sa.length, sa.map (Value.int .i64))] ∧ (∀ z ∈ tickP (cl + 1) pu (ds.take k), -9223372036854775808 ≤ z ∧ z ≤ 9223372036854775807) ∧ BelB w1.heap.size WL wr) (fun i _ => ds.length - (intOf i).toNat)
  case atStart => exact ⟨0, b1, j1, Nat.zero_le _, rfl, hL0, hf0, Below.refl _ _⟩
  case round =>
    obtain ⟨k, c1, l1, hk, rfl, hL, hfp, hbw⟩ := hrel
    clear hL0 hf0
    have HL := hide hL
    have HFP := hide hfp
    have HBW := hide hbw
    clear hL hfp hbw
    replace HY := hide ((unhide HY0).belB (unhide HBW) h1w)
    replace HB := hide (below_trB (unhide HB0) (unhide HBW) (by omega))
    obtain ⟨WA, hWA⟩ : ∃ A : World, A = wr := ⟨_, rfl⟩
    subst hWA
    have HQ := hide (boxRow2 ((unhide HL).1 (28, 6, .slice (some ⟨G, 0, none⟩) 1 1, 1, [.slice b0 es.length j0, .slice c1 pu.length l1, .slice b2 ds.length j2, .int .i64 (cl + 1), .slice b4 nu.length j4, .slice b5 sa.length j5]) (by simp)))
    by_cases hlt : k < ds.length
    case neg =>
      obtain rfl : k = ds.length := by omega
      rw [tickTo_all, List.take_length] at HL
      rw [List.take_length] at HFP
      have q0 := (unhide HQ).cell 0 rfl
      have q1 := (unhide HQ).cell 1 rfl
      have q2 := (unhide HQ).cell 2 rfl
      have q3 := (unhide HQ).cell 3 rfl
      have q4 := (unhide HQ).cell 4 rfl
      have q5 := (unhide HQ).cell 5 rfl
      have y0 := (unhide HY).cell 0 rfl
      have y0f := (unhide HY).frozen 0 rfl
      have y1 := (unhide HY).cell 1 rfl
      have y1f := (unhide HY).frozen 1 rfl
      have y2 := (unhide HY).cell 2 rfl
      have y2f := (unhide HY).frozen 2 rfl
      have y3 := (unhide HY).cell 3 rfl
      have y3f := (unhide HY).frozen 3 rfl
      have y4 := (unhide HY).cell 4 rfl
      have y4f := (unhide HY).frozen 4 rfl
      have y5 := (unhide HY).cell 5 rfl
      have y5f := (unhide HY).frozen 5 rfl
      go_wp2_with fail
      (try clear q0 q1 q2 q3 q4 q5 y0 y0f y1 y1f y2 y2f y3 y3f y4 y4f y5 y5f)
      have HOL := hide (unhide HL)
      clear HL
      replace HY := hide (box_put (unhide HY) 0 (.slice b0 es.length j0) (by simp))
      replace HOL := hide ((unhide HOL).kg (grown_cel _ (w.heap.size + 1) 0 (.slice b0 es.length j0)) (by omega))
      replace HB := hide (below_sc (p := ⟨w.heap.size + 1, 0, none⟩) (v := .slice b0 es.length j0) (unhide HB) (by dsimp only; omega))
      replace HY := hide (box_put (unhide HY) 1 (.slice c1 pu.length l1) (by simp))
      replace HOL := hide ((unhide HOL).kg (grown_cel _ (w.heap.size + 1) 1 (.slice c1 pu.length l1)) (by omega))
      replace HB := hide (below_sc (p := ⟨w.heap.size + 1, 1, none⟩) (v := .slice c1 pu.length l1) (unhide HB) (by dsimp only; omega))
      replace HY := hide (box_put (unhide HY) 2 (.slice b2 ds.length j2) (by simp))
      replace HOL := hide ((unhide HOL).kg (grown_cel _ (w.heap.size + 1) 2 (.slice b2 ds.length j2)) (by omega))
      replace HB := hide (below_sc (p := ⟨w.heap.size + 1, 2, none⟩) (v := .slice b2 ds.length j2) (unhide HB) (by dsimp only; omega))
      replace HY := hide (box_put (unhide HY) 3 (.int .i64 (cl + 1)) (by simp))
      replace HOL := hide ((unhide HOL).kg (grown_cel _ (w.heap.size + 1) 3 (.int .i64 (cl + 1))) (by omega))
      replace HB := hide (below_sc (p := ⟨w.heap.size + 1, 3, none⟩) (v := .int .i64 (cl + 1)) (unhide HB) (by dsimp only; omega))
      replace HY := hide (box_put (unhide HY) 4 (.slice b4 nu.length j4) (by simp))
      replace HOL := hide ((unhide HOL).kg (grown_cel _ (w.heap.size + 1) 4 (.slice b4 nu.length j4)) (by omega))
      replace HB := hide (below_sc (p := ⟨w.heap.size + 1, 4, none⟩) (v := .slice b4 nu.length j4) (unhide HB) (by dsimp only; omega))
      replace HY := hide (box_put (unhide HY) 5 (.slice b5 sa.length j5) (by simp))
      replace HOL := hide ((unhide HOL).kg (grown_cel _ (w.heap.size + 1) 5 (.slice b5 sa.length j5)) (by omega))
      replace HB := hide (below_sc (p := ⟨w.heap.size + 1, 5, none⟩) (v := .slice b5 sa.length j5) (unhide HB) (by dsimp only; omega))
      replace HY := hide (show Box _ (w.heap.size + 1) [.slice b0 es.length j0, .slice c1 pu.length l1, .slice b2 ds.length j2, .int .i64 (cl + 1), .slice b4 nu.length j4, .slice b5 sa.length j5] from unhide HY)
      have hL5 := (live_pair (A := []) (C := [(134, 4, .slice b0 es.length j0, es.length, es.flatMap eCells), (3, 1, .slice c1 pu.length l1, pu.length, (tickP (cl + 1) pu ds).map (Value.int .i64)), (42, 5, .slice b2 ds.length j2, ds.length, (ds.map (tickD (cl + 1))).flatMap dCells), (3, 1, .slice b4 nu.length j4, nu.length, nu.map (Value.int .i64)), (3, 1, .slice b5 sa.length j5, sa.length, sa.map (Value.int .i64))]) |>.1 (unhide HOL)).1
      have ho := copies5g (cl := cl + 1) (tickP_len _ _ _) (List.length_map (tickD (cl + 1))) (unhide HFE) (unhide HFP) (fit_tick (unhide HFD)) (unhide HFN) (unhide HFS) hL5
      refine bodyPost_ret (v := .tuple #[.agg #[.slice b0 es.length j0, .slice c1 pu.length l1, .slice b2 ds.length j2, .int .i64 (cl + 1), .slice b4 nu.length j4, .slice b5 sa.length j5], .bool true]) (results_ct Try.results31 rfl (load_house (unhide HY))) rfl ?_
      refine ⟨⟨b0, j0, c1, l1, b2, j2, b4, j4, b5, j5⟩, ?_, ho.lower (by omega), unhide HB⟩
      simp only [tickH, hV, tickP_len, List.length_map]
    have hds : ds.length ≤ 1048576 := (unhide HSM).2.2.1
    have HLT : Hid (∃ m, ds.length = k + (1 + m)) := ⟨ds.length - k - 1, by omega⟩
    have e0 : (0 : Int) ≤ (k : Int) := by omega
    have e1 : (k : Int) < (ds.length : Int) := by omega
    obtain ⟨⟨x0, x1, x2, x3, x4⟩, hx⟩ := atDD hlt
    obtain ⟨g2, rfl⟩ := row_some ((unhide HL).1 (42, 5, .slice b2 ds.length j2, ds.length, (tickTo (cl + 1) ds k).flatMap dCells) (by simp)) (by omega)
    have hlB := ((unhide HL).1 (28, 6, .slice (some ⟨G, 0, none⟩) 1 1, 1, [.slice b0 es.length j0, .slice c1 pu.length l1, .slice (some ⟨g2, 0, none⟩) ds.length j2, .int .i64 (cl + 1), .slice b4 nu.length j4, .slice b5 sa.length j5]) (by simp)).lt G rfl
    have hdc := deal_cell ((unhide HL).1 (42, 5, .slice (some ⟨g2, 0, none⟩) ds.length j2, ds.length, (tickTo (cl + 1) ds k).flatMap dCells) (by simp)) (tickTo_get (c := cl + 1) hx) (tickTo_len _ _ _)
    have g0 := hdc 0 _ rfl (by decide)
    have g1 := hdc 1 _ rfl (by decide)
    have g2c := hdc 2 _ rfl (by decide)
    have g3 := hdc 3 _ rfl (by decide)
    have g4 := hdc 4 _ rfl (by decide)
    simp only [Nat.add_zero] at g0
    clear hdc
    have HXX := hide hx
    clear hx hlt
    have HQ5 := hide (box_new WA [.int .i64 x0, .int .i64 x1, .int .i64 x2, .int .i64 x3, .int .i64 x4] 42 (by simp [Value.oneCell']))
    replace HL := hide ((unhide HL).bel (below_a (.cells #[.int .i64 x0, .int .i64 x1, .int .i64 x2, .int .i64 x3, .int .i64 x4] 42)))
    replace HQ := hide ((unhide HQ).bel (below_a (.cells #[.int .i64 x0, .int .i64 x1, .int .i64 x2, .int .i64 x3, .int .i64 x4] 42)))
    replace HBW := hide (Below.alloc (unhide HBW) (Nat.le_of_lt (Nat.lt_of_le_of_lt hlB.1 hlB.2)) (.cells #[.int .i64 x0, .int .i64 x1, .int .i64 x2, .int .i64 x3, .int .i64 x4] 42))
    clear HB HY
    have q0 := (unhide HQ).cell 0 rfl
    have q1 := (unhide HQ).cell 1 rfl
    have q2 := (unhide HQ).cell 2 rfl
    have q3 := (unhide HQ).cell 3 rfl
    have q4 := (unhide HQ).cell 4 rfl
    have q5 := (unhide HQ).cell 5 rfl
    have d0 := (unhide HQ5).cell 0 rfl
    have d1 := (unhide HQ5).cell 1 rfl
    have d2 := (unhide HQ5).cell 2 rfl
    have d3 := (unhide HQ5).cell 3 rfl
    have d4 := (unhide HQ5).cell 4 rfl
    go_wp2_with fail
    clear g0 g1 g2c g3 g4
    by_cases h3 : x3 = 0
    case pos =>
      subst h3
      refine (c114 x0 x1 x2 0 x4 _).mono ?_
      rintro e w21 ⟨rfl, hb⟩
      rw [show (!decide ((0 : Int) = 0)) = false from rfl]
      (try clear q0 q1 q2 q3 q4 q5 d0 d1 d2 d3 d4)
      replace HL := hide ((unhide HL).bel hb)
      replace HQ := hide ((unhide HQ).bel hb)
      replace HQ5 := hide ((unhide HQ5).bel hb)
      replace HBW := hide (belB_then (unhide HBW) hb (Nat.le_of_lt (Nat.lt_trans (Nat.lt_of_le_of_lt hlB.1 hlB.2) (by simp))))
      clear hb
      have q0 := (unhide HQ).cell 0 rfl
      have q1 := (unhide HQ).cell 1 rfl
      have q2 := (unhide HQ).cell 2 rfl
      have q3 := (unhide HQ).cell 3 rfl
      have q4 := (unhide HQ).cell 4 rfl
      have q5 := (unhide HQ).cell 5 rfl
      have d0 := (unhide HQ5).cell 0 rfl
      have d1 := (unhide HQ5).cell 1 rfl
      have d2 := (unhide HQ5).cell 2 rfl
      have d3 := (unhide HQ5).cell 3 rfl
      have d4 := (unhide HQ5).cell 4 rfl
      go_wp2_with fail
      (try clear q0 q1 q2 q3 q4 q5 d0 d1 d2 d3 d4)
      go_roundw
      case rel => exact ⟨k + 1, c1, l1, by obtain ⟨m, hm⟩ := unhide HLT; omega, by go_num, by rw [tickP_no (unhide HXX) dueB_not, ← tickTo_no (unhide HXX) dueB_not]; exact unhide HL, by rw [tickP_no (unhide HXX) dueB_not]; exact unhide HFP, unhide HBW⟩
      case measure => obtain ⟨m, hm⟩ := unhide HLT; simp [intOf]; omega
    have h33 : (!decide (x3 = 0)) = true := by simp [h3]
    by_cases h4 : x4 < cl + 1
    case neg =>
      have h44 : decide (x4 < cl + 1) = false := decide_eq_false h4
      have HDU := hide (dueB_late (c := cl + 1) (x0 := x0) (x1 := x1) (x2 := x2) (x3 := x3) h4)
      clear h3
      refine (c114 x0 x1 x2 x3 x4 _).mono ?_
      rintro e w21 ⟨rfl, hb⟩
      rw [h33]
      (try clear q0 q1 q2 q3 q4 q5 d0 d1 d2 d3 d4)
      replace HL := hide ((unhide HL).bel hb)
      replace HQ := hide ((unhide HQ).bel hb)
      replace HQ5 := hide ((unhide HQ5).bel hb)
      replace HBW := hide (belB_then (unhide HBW) hb (Nat.le_of_lt (Nat.lt_trans (Nat.lt_of_le_of_lt hlB.1 hlB.2) (by simp))))
      clear hb
      have q0 := (unhide HQ).cell 0 rfl
      have q1 := (unhide HQ).cell 1 rfl
      have q2 := (unhide HQ).cell 2 rfl
      have q3 := (unhide HQ).cell 3 rfl
      have q4 := (unhide HQ).cell 4 rfl
      have q5 := (unhide HQ).cell 5 rfl
      have d0 := (unhide HQ5).cell 0 rfl
      have d1 := (unhide HQ5).cell 1 rfl
      have d2 := (unhide HQ5).cell 2 rfl
      have d3 := (unhide HQ5).cell 3 rfl
      have d4 := (unhide HQ5).cell 4 rfl
      go_wp2_with fail
      (try clear q0 q1 q2 q3 q4 q5 d0 d1 d2 d3 d4)
      go_roundw
      case rel => exact ⟨k + 1, c1, l1, by obtain ⟨m, hm⟩ := unhide HLT; omega, by go_num, by rw [tickP_no (unhide HXX) (unhide HDU), ← tickTo_no (unhide HXX) (unhide HDU)]; exact unhide HL, by rw [tickP_no (unhide HXX) (unhide HDU)]; exact unhide HFP, unhide HBW⟩
      case measure => obtain ⟨m, hm⟩ := unhide HLT; simp [intOf]; omega
    have h44 : decide (x4 < cl + 1) = true := decide_eq_true h4
    have HDU := hide (dueB_yes (c := cl + 1) (x0 := x0) (x1 := x1) (x2 := x2) h3 h4)
    clear h3
    refine (c114 x0 x1 x2 x3 x4 _).mono ?_
    rintro e w21 ⟨rfl, hb⟩
    rw [h33]
    (try clear q0 q1 q2 q3 q4 q5 d0 d1 d2 d3 d4)
    replace HL := hide ((unhide HL).bel hb)
    replace HQ := hide ((unhide HQ).bel hb)
    replace HQ5 := hide ((unhide HQ5).bel hb)
    replace HBW := hide (belB_then (unhide HBW) hb (Nat.le_of_lt (Nat.lt_trans (Nat.lt_of_le_of_lt hlB.1 hlB.2) (by simp))))
    clear hb
    have q0 := (unhide HQ).cell 0 rfl
    have q1 := (unhide HQ).cell 1 rfl
    have q2 := (unhide HQ).cell 2 rfl
    have q3 := (unhide HQ).cell 3 rfl
    have q4 := (unhide HQ).cell 4 rfl
    have q5 := (unhide HQ).cell 5 rfl
    have d0 := (unhide HQ5).cell 0 rfl
    have d1 := (unhide HQ5).cell 1 rfl
    have d2 := (unhide HQ5).cell 2 rfl
    have d3 := (unhide HQ5).cell 3 rfl
    have d4 := (unhide HQ5).cell 4 rfl
    go_wp2_with fail
    obtain ⟨pk, hpk⟩ : ∃ p, p = tickP (cl + 1) pu (ds.take k) := ⟨_, rfl⟩
    have hlen : pk.length = pu.length := by rw [hpk]; exact tickP_len _ _ _
    have HPK := hide hpk
    rw [← hpk] at HL HFP
    clear hpk
    have hp100 := unhide HPR _ (List.mem_of_getElem? (unhide HXX))
    dsimp only at hp100
    have howP : Own w21 w1.heap.size (.slice c1 pk.length l1) pk := ⟨unhide HFP, by rw [hlen]; exact (unhide HL).1 (3, 1, .slice c1 pu.length l1, pu.length, (pk).map (Value.int .i64)) (by simp)⟩
    have hzP : c1 = none → l1 = 0 := fun e => by subst e; exact own_cap0 howP
    have hbx : Box w21 G [.slice b0 es.length j0, .slice c1 pk.length l1, .slice (some ⟨g2, 0, none⟩) ds.length j2, .int .i64 (cl + 1), .slice b4 nu.length j4, .slice b5 sa.length j5] := by rw [hlen]; exact unhide HQ
    have h48 : pk.length ≤ 1048576 := by rw [hlen]; exact (unhide HSM).2.1
    refine (c118 G _ c1 l1 _ _ _ _ pk x3 x2 w21 hbx (own_rowI howP) hzP h48 (by omega)).mono ?_
    rintro e w22 ⟨rfl, V, v, hb, ho, rfl⟩
    obtain ⟨c2, l2, rfl⟩ := live_form ho.2
    rw [Tm.monTurn_len, hlen]
    (try clear q0 q1 q2 q3 q4 q5 d0 d1 d2 d3 d4)
    have hoS : V.ownsRow w21.heap.size 3 1 (.slice c2 pu.length l2) pu.length ((Tm.monTurn pk x3 x2).map (Value.int .i64)) := by have h := ho.2; rw [Tm.monTurn_len, hlen] at h; exact h
    have hB21 : w1.heap.size ≤ w21.heap.size := by have := (unhide HBW).size; omega
    have hd1 := (live_pair (A := [(28, 6, .slice (some ⟨G, 0, none⟩) 1 1, 1, [.slice b0 es.length j0, .slice c1 pu.length l1, .slice (some ⟨g2, 0, none⟩) ds.length j2, .int .i64 (cl + 1), .slice b4 nu.length j4, .slice b5 sa.length j5]), (134, 4, .slice b0 es.length j0, es.length, es.flatMap eCells)]) (C := [(42, 5, .slice (some ⟨g2, 0, none⟩) ds.length j2, ds.length, (tickTo (cl + 1) ds k).flatMap dCells), (3, 1, .slice b4 nu.length j4, nu.length, nu.map (Value.int .i64)), (3, 1, .slice b5 sa.length j5, sa.length, sa.map (Value.int .i64))]) |>.1 (unhide HL)).1
    have hd2 := live_new (A := [(28, 6, .slice (some ⟨G, 0, none⟩) 1 1, 1, [.slice b0 es.length j0, .slice c1 pu.length l1, .slice (some ⟨g2, 0, none⟩) ds.length j2, .int .i64 (cl + 1), .slice b4 nu.length j4, .slice b5 sa.length j5]), (134, 4, .slice b0 es.length j0, es.length, es.flatMap eCells)]) (C := [(42, 5, .slice (some ⟨g2, 0, none⟩) ds.length j2, ds.length, (tickTo (cl + 1) ds k).flatMap dCells), (3, 1, .slice b4 nu.length j4, nu.length, nu.map (Value.int .i64)), (3, 1, .slice b5 sa.length j5, sa.length, sa.map (Value.int .i64))]) hd1 hb (owns_mono hoS hB21) (fun k hk => (hoS.lt k hk).1)
    have hd3 := live_put (A := []) (C := [(134, 4, .slice b0 es.length j0, es.length, es.flatMap eCells), (3, 1, .slice c2 pu.length l2, pu.length, (Tm.monTurn pk x3 x2).map (Value.int .i64)), (42, 5, .slice (some ⟨g2, 0, none⟩) ds.length j2, ds.length, (tickTo (cl + 1) ds k).flatMap dCells), (3, 1, .slice b4 nu.length j4, nu.length, nu.map (Value.int .i64)), (3, 1, .slice b5 sa.length j5, sa.length, sa.map (Value.int .i64))]) hd2 1 (.slice c2 pu.length l2)
    have HL2 : Hid (Live _ w1.heap.size [(28, 6, .slice (some ⟨G, 0, none⟩) 1 1, 1, [.slice b0 es.length j0, .slice c2 pu.length l2, .slice (some ⟨g2, 0, none⟩) ds.length j2, .int .i64 (cl + 1), .slice b4 nu.length j4, .slice b5 sa.length j5]), (134, 4, .slice b0 es.length j0, es.length, es.flatMap eCells), (3, 1, .slice c2 pu.length l2, pu.length, (Tm.monTurn pk x3 x2).map (Value.int .i64)), (42, 5, .slice (some ⟨g2, 0, none⟩) ds.length j2, ds.length, (tickTo (cl + 1) ds k).flatMap dCells), (3, 1, .slice b4 nu.length j4, nu.length, nu.map (Value.int .i64)), (3, 1, .slice b5 sa.length j5, sa.length, sa.map (Value.int .i64))]) := hd3
    have HFP2 := hide ho.1
    have HBW2 := hide (belB_put (belB_then (unhide HBW) hb hB21) G 1 (.slice c2 pu.length l2) hlB.1 (Nat.le_trans hB21 hb.size))
    clear HL HFP HBW HQ HQ5 hd1 hd2 hd3 hoS ho hb howP hzP hbx h48 hB21
    generalize V.setCell ⟨G, 1, none⟩ (.slice c2 pu.length l2) = w23 at *
    have HQ := hide (boxRow2 ((unhide HL2).1 (28, 6, .slice (some ⟨G, 0, none⟩) 1 1, 1, [.slice b0 es.length j0, .slice c2 pu.length l2, .slice (some ⟨g2, 0, none⟩) ds.length j2, .int .i64 (cl + 1), .slice b4 nu.length j4, .slice b5 sa.length j5]) (by simp)))
    have hdr := (unhide HL2).1 (42, 5, .slice (some ⟨g2, 0, none⟩) ds.length j2, ds.length, (tickTo (cl + 1) ds k).flatMap dCells) (by simp)
    have hdc := deal_cell hdr (tickTo_get (c := cl + 1) (unhide HXX)) (tickTo_len _ _ _)
    have g3 := hdc 3 _ rfl (by decide)
    have g4 := hdc 4 _ rfl (by decide)
    have g3f := hdr.frozenAt (k * 5 + 3)
    have g4f := hdr.frozenAt (k * 5 + 4)
    have hlg := (hdr.lt g2 rfl).1
    have hs23 : w1.heap.size ≤ w23.heap.size := Nat.le_of_lt (Nat.lt_of_le_of_lt hlg (hdr.lt g2 rfl).2)
    clear hdc hdr
    have q0 := (unhide HQ).cell 0 rfl
    have q1 := (unhide HQ).cell 1 rfl
    have q2 := (unhide HQ).cell 2 rfl
    have q3 := (unhide HQ).cell 3 rfl
    have q4 := (unhide HQ).cell 4 rfl
    have q5 := (unhide HQ).cell 5 rfl
    go_wp2_with fail
    (try clear q0 q1 q2 q3 q4 q5)
    clear g3 g4 g3f g4f
    have hn := live_put (A := [(28, 6, .slice (some ⟨G, 0, none⟩) 1 1, 1, [.slice b0 es.length j0, .slice c2 pu.length l2, .slice (some ⟨g2, 0, none⟩) ds.length j2, .int .i64 (cl + 1), .slice b4 nu.length j4, .slice b5 sa.length j5]), (134, 4, .slice b0 es.length j0, es.length, es.flatMap eCells), (3, 1, .slice c2 pu.length l2, pu.length, (Tm.monTurn pk x3 x2).map (Value.int .i64))]) (C := [(3, 1, .slice b4 nu.length j4, nu.length, nu.map (Value.int .i64)), (3, 1, .slice b5 sa.length j5, sa.length, sa.map (Value.int .i64))]) (live_put (A := [(28, 6, .slice (some ⟨G, 0, none⟩) 1 1, 1, [.slice b0 es.length j0, .slice c2 pu.length l2, .slice (some ⟨g2, 0, none⟩) ds.length j2, .int .i64 (cl + 1), .slice b4 nu.length j4, .slice b5 sa.length j5]), (134, 4, .slice b0 es.length j0, es.length, es.flatMap eCells), (3, 1, .slice c2 pu.length l2, pu.length, (Tm.monTurn pk x3 x2).map (Value.int .i64))]) (C := [(3, 1, .slice b4 nu.length j4, nu.length, nu.map (Value.int .i64)), (3, 1, .slice b5 sa.length j5, sa.length, sa.map (Value.int .i64))]) (unhide HL2) (k * 5 + 3) (.int .i64 0)) (k * 5 + 4) (.int .i64 0)
    rw [cells34 (tickTo_get (c := cl + 1) (unhide HXX))] at hn
    have htd : tickD (cl + 1) (x0, x1, x2, x3, x4) = (x0, x1, x2, 0, 0) := by unfold tickD; rw [if_pos (unhide HDU)]
    rw [← htd, tickTo_step (unhide HXX)] at hn
    have hpn : Tm.monTurn pk x3 x2 = tickP (cl + 1) pu (ds.take (k + 1)) := by rw [tickP_hit (unhide HXX) (unhide HDU), ← unhide HPK]
    rw [hpn] at hn
    have hfn := unhide HFP2
    rw [hpn] at hfn
    have HN := hide hn
    have HFN2 := hide hfn
    have HBN := hide (belB_put (belB_put (unhide HBW2) g2 (k * 5 + 3) (.int .i64 0) hlg hs23) g2 (k * 5 + 4) (.int .i64 0) hlg (by rw [World.size_setCell]; exact hs23))
    clear hn hfn hpn htd
    go_roundw
    case rel => exact ⟨k + 1, c2, l2, by obtain ⟨m, hm⟩ := unhide HLT; omega, by go_num, unhide HN, unhide HFN2, unhide HBN⟩
    case measure => obtain ⟨m, hm⟩ := unhide HLT; simp [intOf]; omega
end Go.Proofs.Ytmlbphmbffkdnaa
