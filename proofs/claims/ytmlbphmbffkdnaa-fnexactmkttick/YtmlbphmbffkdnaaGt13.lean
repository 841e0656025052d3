/-
  Texts of the proof, what it needs of them: Lstd.
-/
import Derived.Test.YtmlbphmbffkdnaaGt09
import Derived.Test.YtmlbphmbffkdnaaGt11
namespace Go.Proofs.Ytmlbphmbffkdnaa
open Go.RowKit
set_option linter.unusedVariables false
set_option maxRecDepth 100000

/-- a ticket that is offered: ticket, seller, price, buyer, due -/
abbrev Tm.Deal := Int × Int × Int × Int × Int
abbrev dealV (x0 x1 x2 x3 x4 : Int) : Value := .agg #[.int .i64 x0, .int .i64 x1, .int .i64 x2, .int .i64 x3, .int .i64 x4]
def dCells (d : Tm.Deal) : List Value := [.int .i64 d.1, .int .i64 d.2.1, .int .i64 d.2.2.1, .int .i64 d.2.2.2.1, .int .i64 d.2.2.2.2]
theorem dCells_len (d : Tm.Deal) : (dCells d).length = 5 := rfl
def Fit64 (x : Int) : Prop := -9223372036854775808 ≤ x ∧ x ≤ 9223372036854775807
def FitD (d : Tm.Deal) : Prop := Fit64 d.1 ∧ Fit64 d.2.1 ∧ Fit64 d.2.2.1 ∧ Fit64 d.2.2.2.1 ∧ Fit64 d.2.2.2.2
theorem d_cells {w w' : World} {b off k : Nat} {ds : List Tm.Deal} (hb : Below w.heap.size w w') (hc : ∀ j v, (ds.flatMap dCells)[j]? = some v → w.cell? ⟨b, off + j, none⟩ = some v) {a c d f g : Int} (hk : ds[k]? = some (a, c, d, f, g)) :
    w'.cell? ⟨b, off + k * 5, none⟩ = some (.int .i64 a) ∧ w'.cell? ⟨b, off + k * 5 + 1, none⟩ = some (.int .i64 c) ∧ w'.cell? ⟨b, off + k * 5 + 2, none⟩ = some (.int .i64 d) ∧ w'.cell? ⟨b, off + k * 5 + 3, none⟩ = some (.int .i64 f) ∧ w'.cell? ⟨b, off + k * 5 + 4, none⟩ = some (.int .i64 g) :=
  ⟨cell_bl hb (Sl.at dCells_len hc hk 0 rfl), cell_bl hb (Sl.at dCells_len hc hk 1 rfl), cell_bl hb (Sl.at dCells_len hc hk 2 rfl), cell_bl hb (Sl.at dCells_len hc hk 3 rfl), cell_bl hb (Sl.at dCells_len hc hk 4 rfl)⟩
def DRow (w : World) (ao : Option Addr) (ds : List Tm.Deal) : Prop := (∀ d ∈ ds, FitD d) ∧ Sl dCells w ao ds
def DOwn (w : World) (base : Nat) (v : Value) (ds : List Tm.Deal) : Prop := (∀ d ∈ ds, FitD d) ∧ w.ownsRow base 42 5 v ds.length (ds.flatMap dCells)
theorem Try.infoD : (Try.prog.info? 42).map (fun i => (i.zero, i.size, i.bytes)) = some (some (.agg #[.int .i64 0, .int .i64 0, .int .i64 0, .int .i64 0, .int .i64 0]), 5, 40) := by kernel_rfl
theorem DOwn.row {w : World} {base : Nat} {v : Value} {ds : List Tm.Deal} (h : DOwn w base v ds) :
    ∃ ao cap, v = .slice ao ds.length cap ∧ ds.length ≤ cap ∧ DRow w ao ds ∧ (∀ a, ao = some a → base ≤ a.block ∧ a.block < w.heap.size) := by
  obtain ⟨ao, cap, h1, h2, h3, h4⟩ := owns_read dCells_len h.2
  exact ⟨ao, cap, h1, h2, ⟨h.1, h3⟩, h4⟩
theorem DOwn.bel {w w' : World} {base : Nat} {v : Value} {ds : List Tm.Deal} (h : DOwn w base v ds) (hb : Below w.heap.size w w') : DOwn w' base v ds := ⟨h.1, owns_below h.2 hb⟩
theorem DRow.bel {w w' : World} {ao : Option Addr} {ds : List Tm.Deal} (h : DRow w ao ds) (hb : Below w.heap.size w w') : DRow w' ao ds := ⟨h.1, h.2.below hb⟩
set_option maxHeartbeats 400000 in
theorem c204 (x0 x1 x2 x3 x4 : Int) (w : World) : Calls Try.prog 204 #[dealV x0 x1 x2 x3 x4] w fun e w' => e = .returned (dealV x0 x1 x2 x3 x4) ∧ Below w.heap.size w w' := by
  go_enter Try.func204, Try.ntmps204
  go_wp2_with fail
  exact bodyPost_ret (v := dealV x0 x1 x2 x3 x4) (by simp [results, Try.results204, go_sem]) rfl ⟨rfl, below_al (below_al (below_a _))⟩

set_option maxHeartbeats 800000 in
theorem c206 (x0 x1 x2 x3 x4 : Int) (y0 y1 y2 y3 y4 : Int) (w : World) : Calls Try.prog 206 #[dealV x0 x1 x2 x3 x4, dealV y0 y1 y2 y3 y4] w fun e w' => e = .returned (.bool (decide ((x0, x1, x2, x3, x4) = (y0, y1, y2, y3, y4)))) ∧ Below w.heap.size w w' := by
  by_cases q0 : x0 = y0
  case neg =>
    have HE : Hid (decide ((x0, x1, x2, x3, x4) = (y0, y1, y2, y3, y4)) = false) := by unfold Hid; rw [decide_eq_false_iff_not]; intro h; simp only [Prod.mk.injEq] at h; exact q0 h.1
    have b0 : (x0 != y0) = true := by rw [bne_iff_ne]; exact q0
    clear q0
    go_enter Try.func206, Try.ntmps206
    go_wp2_with fail
    go_ret
    exact ⟨ret_bool (unhide HE).symm, below_al (below_a _)⟩
  by_cases q1 : x1 = y1
  case neg =>
    have HE : Hid (decide ((x0, x1, x2, x3, x4) = (y0, y1, y2, y3, y4)) = false) := by unfold Hid; rw [decide_eq_false_iff_not]; intro h; simp only [Prod.mk.injEq] at h; exact q1 h.2.1
    have b1 : (x1 != y1) = true := by rw [bne_iff_ne]; exact q1
    have c0 : (x0 != y0) = false := by rw [bne_eq_false_iff_eq]; exact q0
    clear q0
    clear q1
    go_enter Try.func206, Try.ntmps206
    go_wp2_with fail
    go_ret
    exact ⟨ret_bool (unhide HE).symm, below_al (below_a _)⟩
  by_cases q2 : x2 = y2
  case neg =>
    have HE : Hid (decide ((x0, x1, x2, x3, x4) = (y0, y1, y2, y3, y4)) = false) := by unfold Hid; rw [decide_eq_false_iff_not]; intro h; simp only [Prod.mk.injEq] at h; exact q2 h.2.2.1
    have b2 : (x2 != y2) = true := by rw [bne_iff_ne]; exact q2
    have c0 : (x0 != y0) = false := by rw [bne_eq_false_iff_eq]; exact q0
    have c1 : (x1 != y1) = false := by rw [bne_eq_false_iff_eq]; exact q1
    clear q0
    clear q1
    clear q2
    go_enter Try.func206, Try.ntmps206
    go_wp2_with fail
    go_ret
    exact ⟨ret_bool (unhide HE).symm, below_al (below_a _)⟩
  by_cases q3 : x3 = y3
  case neg =>
    have HE : Hid (decide ((x0, x1, x2, x3, x4) = (y0, y1, y2, y3, y4)) = false) := by unfold Hid; rw [decide_eq_false_iff_not]; intro h; simp only [Prod.mk.injEq] at h; exact q3 h.2.2.2.1
    have b3 : (x3 != y3) = true := by rw [bne_iff_ne]; exact q3
    have c0 : (x0 != y0) = false := by rw [bne_eq_false_iff_eq]; exact q0
    have c1 : (x1 != y1) = false := by rw [bne_eq_false_iff_eq]; exact q1
    have c2 : (x2 != y2) = false := by rw [bne_eq_false_iff_eq]; exact q2
    clear q0
    clear q1
    clear q2
    clear q3
    go_enter Try.func206, Try.ntmps206
    go_wp2_with fail
    go_ret
    exact ⟨ret_bool (unhide HE).symm, below_al (below_a _)⟩
  by_cases q4 : x4 = y4
  case neg =>
    have HE : Hid (decide ((x0, x1, x2, x3, x4) = (y0, y1, y2, y3, y4)) = false) := by unfold Hid; rw [decide_eq_false_iff_not]; intro h; simp only [Prod.mk.injEq] at h; exact q4 h.2.2.2.2
    have b4 : (x4 != y4) = true := by rw [bne_iff_ne]; exact q4
    have c0 : (x0 != y0) = false := by rw [bne_eq_false_iff_eq]; exact q0
    have c1 : (x1 != y1) = false := by rw [bne_eq_false_iff_eq]; exact q1
    have c2 : (x2 != y2) = false := by rw [bne_eq_false_iff_eq]; exact q2
    have c3 : (x3 != y3) = false := by rw [bne_eq_false_iff_eq]; exact q3
    clear q0
    clear q1
    clear q2
    clear q3
    clear q4
    go_enter Try.func206, Try.ntmps206
    go_wp2_with fail
    go_ret
    exact ⟨ret_bool (unhide HE).symm, below_al (below_a _)⟩
  subst q0 q1 q2 q3 q4
  go_enter Try.func206, Try.ntmps206
  go_wp2_with fail
  go_ret
  exact ⟨ret_bool (by simp), below_al (below_a _)⟩

theorem ne_atD {xs ys : List Tm.Deal} {k : Nat} {x y : Tm.Deal} (hx : xs[k]? = some x) (hy : ys[k]? = some y) (h : x ≠ y) : decide (xs = ys) = false := by
  rw [decide_eq_false_iff_not]; intro e; subst e; rw [hx] at hy; cases hy; exact h rfl
theorem eq_allD {xs ys : List Tm.Deal} (hl : xs.length = ys.length) (h : ∀ j, j < xs.length → xs[j]? = ys[j]?) : decide (xs = ys) = true := by
  rw [decide_eq_true_iff]
  apply List.ext_getElem?
  intro j
  rcases Nat.lt_or_ge j xs.length with h1 | h1
  · exact h j h1
  · rw [List.getElem?_eq_none h1, List.getElem?_eq_none (by omega)]
theorem ne_lenD {xs ys : List Tm.Deal} (hl : xs.length ≠ ys.length) : decide (xs = ys) = false := by
  rw [decide_eq_false_iff_not]; intro e; subst e; exact hl rfl
theorem atD {xs : List Tm.Deal} {k : Nat} (h : k < xs.length) : ∃ x, xs[k]? = some x := ⟨xs[k], List.getElem?_eq_getElem h⟩

set_option maxHeartbeats 2000000 in
theorem c165 (xs ys : List Tm.Deal) (ao bo : Option Addr) (n cap m cap' : Nat) (w : World) (hn : xs.length = n) (hm : ys.length = m) (h1 : n ≤ 1048576) (h2 : m ≤ 1048576) (hr : DRow w ao xs) (hs : DRow w bo ys) :
    Calls Try.prog 165 #[.slice ao n cap, .slice bo m cap'] w fun e w' => e = .returned (.bool (decide (xs = ys))) ∧ Below w.heap.size w w' := by
  subst hn
  subst hm
  obtain ⟨-, hr⟩ := hr
  obtain ⟨-, hs⟩ := hs
  by_cases hl : xs.length = ys.length
  · have hL' : ((xs.length : Int) != (ys.length : Int)) = false := by simp [hl]
    have HL := hide hl
    have HR := hide hr
    have HS := hide hs
    clear hl hr hs
    go_enter Try.func165, Try.ntmps165
    go_wp2_with fail
    go_loopw [5] (fun i wr => ∃ k : Nat, k ≤ xs.length ∧ i = .int .i64 k ∧ (∀ j, j < k → xs[j]? = ys[j]?) ∧ Below w.heap.size w wr) (fun i _ => xs.length - (intOf i).toNat)
    case atStart => exact ⟨0, Nat.zero_le _, rfl, fun j hj => absurd hj (Nat.not_lt_zero _), Below.refl _ _⟩
    case round =>
      obtain ⟨k, hk, rfl, hall, hbel⟩ := hrel
      by_cases hlt : k < xs.length
      · obtain ⟨b, off, rfl, hc⟩ := unhide HR (by intro e; subst e; simp at hlt)
        obtain ⟨b', off', rfl, hc'⟩ := unhide HS (by intro e; subst e; have := HL.out; simp at this; subst this; simp at hlt)
        obtain ⟨⟨x0, x1, x2, x3, x4⟩, hx⟩ := atD hlt
        obtain ⟨⟨y0, y1, y2, y3, y4⟩, hy⟩ := atD (show k < ys.length by have := HL.out; omega)
        obtain ⟨g0, g1, g2, g3, g4⟩ := d_cells hbel hc hx
        obtain ⟨h0, h1, h2, h3, h4⟩ := d_cells hbel hc' hy
        have e1 : (k : Int) < (xs.length : Int) := by omega
        have e2 : (k : Int) < (ys.length : Int) := by have := HL.out; omega
        have e0 : (0 : Int) ≤ (k : Int) := by omega
        by_cases hxy : (x0, x1, x2, x3, x4) = (y0, y1, y2, y3, y4)
        · have HA : Hid (∀ j, j < k + 1 → xs[j]? = ys[j]?) := by
            intro j hj
            by_cases e : j = k
            · subst e; rw [hx, hy, hxy]
            · exact hall j (by omega)
          have HXY := hide (decide_eq_true hxy)
          have HB := hide hbel
          clear hall hxy hx hy hbel hc hc'
          go_wp2_with fail
          have hbq := below_drew wr
          go_region_held3 (fun w' => w'.cell? ⟨b, off + k * 5, none⟩ = some (.int .i64 x0) ∧ w'.cell? ⟨b, off + k * 5 + 1, none⟩ = some (.int .i64 x1) ∧ w'.cell? ⟨b, off + k * 5 + 2, none⟩ = some (.int .i64 x2) ∧ w'.cell? ⟨b, off + k * 5 + 3, none⟩ = some (.int .i64 x3) ∧ w'.cell? ⟨b, off + k * 5 + 4, none⟩ = some (.int .i64 x4) ∧ w'.cell? ⟨b', off' + k * 5, none⟩ = some (.int .i64 y0) ∧ w'.cell? ⟨b', off' + k * 5 + 1, none⟩ = some (.int .i64 y1) ∧ w'.cell? ⟨b', off' + k * 5 + 2, none⟩ = some (.int .i64 y2) ∧ w'.cell? ⟨b', off' + k * 5 + 3, none⟩ = some (.int .i64 y3) ∧ w'.cell? ⟨b', off' + k * 5 + 4, none⟩ = some (.int .i64 y4)) (first | exact ⟨cell_below hbq g0, cell_below hbq g1, cell_below hbq g2, cell_below hbq g3, cell_below hbq g4, cell_below hbq h0, cell_below hbq h1, cell_below hbq h2, cell_below hbq h3, cell_below hbq h4⟩ | exact ⟨g0, g1, g2, g3, g4, h0, h1, h2, h3, h4⟩) ((go_at_call 206; refine (c206 x0 x1 x2 x3 x4 y0 y1 y2 y3 y4 _).mono ?_; rintro e w2 ⟨rfl, hb2⟩; have hbq := below_undrew hb2; rw [unhide HXY]))
          go_wp2_with fail
          go_roundw
          case rel => exact ⟨k + 1, by omega, by go_num, HA.out, below_tr (unhide HB) (by first | exact hbq | exact below_dn (Below.refl _ _) _)⟩
          case measure => simp [intOf]; omega
        · have HA := hide (ne_atD hx hy hxy)
          have HXY := hide (decide_eq_false hxy)
          have HB := hide hbel
          clear hall hxy hx hy hbel hc hc'
          go_wp2_with fail
          have hbq := below_drew wr
          go_region_held3 (fun w' => w'.cell? ⟨b, off + k * 5, none⟩ = some (.int .i64 x0) ∧ w'.cell? ⟨b, off + k * 5 + 1, none⟩ = some (.int .i64 x1) ∧ w'.cell? ⟨b, off + k * 5 + 2, none⟩ = some (.int .i64 x2) ∧ w'.cell? ⟨b, off + k * 5 + 3, none⟩ = some (.int .i64 x3) ∧ w'.cell? ⟨b, off + k * 5 + 4, none⟩ = some (.int .i64 x4) ∧ w'.cell? ⟨b', off' + k * 5, none⟩ = some (.int .i64 y0) ∧ w'.cell? ⟨b', off' + k * 5 + 1, none⟩ = some (.int .i64 y1) ∧ w'.cell? ⟨b', off' + k * 5 + 2, none⟩ = some (.int .i64 y2) ∧ w'.cell? ⟨b', off' + k * 5 + 3, none⟩ = some (.int .i64 y3) ∧ w'.cell? ⟨b', off' + k * 5 + 4, none⟩ = some (.int .i64 y4)) (first | exact ⟨cell_below hbq g0, cell_below hbq g1, cell_below hbq g2, cell_below hbq g3, cell_below hbq g4, cell_below hbq h0, cell_below hbq h1, cell_below hbq h2, cell_below hbq h3, cell_below hbq h4⟩ | exact ⟨g0, g1, g2, g3, g4, h0, h1, h2, h3, h4⟩) ((go_at_call 206; refine (c206 x0 x1 x2 x3 x4 y0 y1 y2 y3 y4 _).mono ?_; rintro e w2 ⟨rfl, hb2⟩; have hbq := below_undrew hb2; rw [unhide HXY]))
          go_wp2_with fail
          go_ret
          exact ⟨ret_bool (unhide HA).symm, below_tr (unhide HB) (by first | exact hbq | exact below_dn (Below.refl _ _) _)⟩
      · have hke : k = xs.length := by omega
        subst hke
        have HA := hide (eq_allD HL.out hall)
        have HB := hide hbel
        clear hall hbel
        go_wp2_with fail
        go_ret
        exact ⟨ret_bool (unhide HA).symm, unhide HB⟩
  · have hL' : ((xs.length : Int) != (ys.length : Int)) = true := by rw [bne_iff_ne]; omega
    have HA := hide (ne_lenD hl)
    clear hr hs hl
    go_enter Try.func165, Try.ntmps165
    go_wp2_with fail
    go_ret
    exact ⟨ret_bool (unhide HA).symm, Below.refl _ _⟩

theorem putD {tt : TypeId} {wr : World} {base g cap n : Nat} {ys : List Tm.Deal} {k : Nat} (hown : wr.ownsRow base tt 5 (.slice (some ⟨g, 0, none⟩) n cap) n (ys.flatMap dCells)) (hl : ys.length = n) (hk : k < n) (x0 x1 x2 x3 x4 : Int) :
    (((((wr.setCell ⟨g, k * 5, none⟩ (.int .i64 x0)).setCell ⟨g, k * 5 + 1, none⟩ (.int .i64 x1)).setCell ⟨g, k * 5 + 2, none⟩ (.int .i64 x2)).setCell ⟨g, k * 5 + 3, none⟩ (.int .i64 x3)).setCell ⟨g, k * 5 + 4, none⟩ (.int .i64 x4)).ownsRow base tt 5 (.slice (some ⟨g, 0, none⟩) n cap) n ((ys.set k (x0, x1, x2, x3, x4)).flatMap dCells) ∧ wr.grownBy (((((wr.setCell ⟨g, k * 5, none⟩ (.int .i64 x0)).setCell ⟨g, k * 5 + 1, none⟩ (.int .i64 x1)).setCell ⟨g, k * 5 + 2, none⟩ (.int .i64 x2)).setCell ⟨g, k * 5 + 3, none⟩ (.int .i64 x3)).setCell ⟨g, k * 5 + 4, none⟩ (.int .i64 x4)) (some g) ∧
    (∃ v, wr.cell? ⟨g, k * 5, none⟩ = some v) ∧ (∃ v, wr.cell? ⟨g, k * 5 + 1, none⟩ = some v) ∧ (∃ v, wr.cell? ⟨g, k * 5 + 2, none⟩ = some v) ∧ (∃ v, wr.cell? ⟨g, k * 5 + 3, none⟩ = some v) ∧ (∃ v, wr.cell? ⟨g, k * 5 + 4, none⟩ = some v) ∧  (∀ j, wr.frozen? ⟨g, j, none⟩ = false) := by
  have hlen : (ys.flatMap dCells).length = n * 5 := by rw [flat_len dCells 5 dCells_len, hl]
  have hc : ∀ i, i < 5 → ∃ v, wr.cell? ⟨g, k * 5 + i, none⟩ = some v := by
    intro i hi
    have h1 : k * 5 + i < n * 5 := by omega
    rw [hown.cellAt (k * 5 + i) h1]
    exact ⟨_, List.getElem?_eq_getElem (by rw [hlen]; exact h1)⟩

  have s0 := hown.stored (k * 5) (.int .i64 x0)
  have s1 := s0.1.stored (k * 5 + 1) (.int .i64 x1)
  have s2 := s1.1.stored (k * 5 + 2) (.int .i64 x2)
  have s3 := s2.1.stored (k * 5 + 3) (.int .i64 x3)
  have s4 := s3.1.stored (k * 5 + 4) (.int .i64 x4)
  refine ⟨?_, grow_trans (grow_trans (grow_trans (grow_trans (s0.2) s1.2) s2.2) s3.2) s4.2, hc 0 (by decide), hc 1 (by decide), hc 2 (by decide), hc 3 (by decide), hc 4 (by decide),  fun j => hown.frozenAt j⟩
  have e := flat_set dCells 5 dCells_len ys k (x0, x1, x2, x3, x4) (by omega)
  rw [← e]
  exact s4.1

set_option maxHeartbeats 1000000 in
theorem c163 (xs : List Tm.Deal) (ao : Option Addr) (n cap : Nat) (w : World) (hn : xs.length = n) (hm : n ≤ 1048576) (hr : DRow w ao xs) :
    Calls Try.prog 163 #[.slice ao n cap] w fun e w' => e = .returned (.slice (some ⟨w.heap.size, 0, none⟩) n n) ∧ DOwn w' w.heap.size (.slice (some ⟨w.heap.size, 0, none⟩) n n) xs ∧ Below w.heap.size w w' := by
  subst hn
  obtain ⟨hf, hr⟩ := hr
  have HF := hide hf
  have HR := hide hr
  clear hf hr
  obtain ⟨i0, hi, hz0, hz1, hz2⟩ := info_parts Try.infoD
  go_enter Try.func163, Try.ntmps163
  go_wp2_with (first | (at_make; refine wpList_make_full _ rfl _ _ 26 rfl w.heap.size 42 i0 _ 5 Try.underlying26 hi hz0 hz1 _ _ _ _ xs.length rfl rfl rfl rfl (by rw [hz2]; omega) (by unfold maxLen; omega) (Nat.le_refl _) ?_; intro w1 hown hgrow) | fail)
  have hb1 : Below w.heap.size w w1 := (Below.refl _ _).grown hgrow (Nat.le_refl _) (fun k hk => by cases hk)
  have hown0 : w1.ownsRow w.heap.size 42 5 (.slice (some ⟨w.heap.size, 0, none⟩) xs.length xs.length) xs.length ((madeS (0, 0, 0, 0, 0) xs 0).flatMap dCells) := by
    rw [madeS_zero, ← made_flat dCells 5 ((0, 0, 0, 0, 0) : Tm.Deal) _ rfl rfl (by decide)]
    exact hown
  clear hown hgrow
  go_loopw [4] (fun i wr => ∃ k : Nat, k ≤ xs.length ∧ i = .int .i64 k ∧ wr.ownsRow w.heap.size 42 5 (.slice (some ⟨w.heap.size, 0, none⟩) xs.length xs.length) xs.length ((madeS (0, 0, 0, 0, 0) xs k).flatMap dCells) ∧ Below w.heap.size w wr) (fun i _ => xs.length - (intOf i).toNat)
  case atStart => exact ⟨0, Nat.zero_le _, rfl, hown0, hb1⟩
  case round =>
    obtain ⟨k, hk, rfl, hown, hbel⟩ := hrel
    clear hown0 hb1
    by_cases hlt : k < xs.length
    · obtain ⟨b, off, rfl, hc⟩ := unhide HR (by intro e; subst e; simp at hlt)
      obtain ⟨⟨x0, x1, x2, x3, x4⟩, hx⟩ := atD hlt
      obtain ⟨g0, g1, g2, g3, g4⟩ := d_cells hbel hc hx
      have HMS := hide (madeS_set (0, 0, 0, 0, 0) xs k (x0, x1, x2, x3, x4) hx)
      have HML := hide (madeS_len (0, 0, 0, 0, 0) xs k hk)
      have HOW := hide hown
      have HBE := hide hbel
      clear hown hbel hc hx
      go_wp2_with fail
      refine (c204 x0 x1 x2 x3 x4 _).mono ?_
      rintro e w2 ⟨rfl, hb2⟩
      obtain ⟨p1, p2, ⟨o0, k0⟩, ⟨o1, k1⟩, ⟨o2, k2⟩, ⟨o3, k3⟩, ⟨o4, k4⟩, pf⟩ := putD (owns_below (unhide HOW) hb2) (unhide HML) hlt x0 x1 x2 x3 x4
      have pf := pf
      have H1 := hide p1
      have H2 := hide (Below.grown (below_tr (unhide HBE) hb2) p2 (below_tr (unhide HBE) hb2).size (fun k hk => by cases hk; exact Nat.le_refl _))
      clear p1 p2 hb2
      go_wp2_with fail
      go_roundw
      case rel => exact ⟨k + 1, by omega, by go_num, by rw [← unhide HMS]; exact unhide H1, unhide H2⟩
      case measure => simp [intOf]; omega
    · have hke : k = xs.length := by omega
      subst hke
      rw [madeS_all] at hown
      have H1 := hide hown
      have HB := hide hbel
      clear hown hbel
      go_wp2_with fail
      go_ret
      exact ⟨rfl, ⟨unhide HF, unhide H1⟩, unhide HB⟩

end Go.Proofs.Ytmlbphmbffkdnaa
