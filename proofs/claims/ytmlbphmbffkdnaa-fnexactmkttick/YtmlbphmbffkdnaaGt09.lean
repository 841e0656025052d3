/-
  Texts of the proof, what it needs of them: Lste.
-/
import Derived.Test.YtmlbphmbffkdnaaGt05
import Derived.Test.YtmlbphmbffkdnaaGt08
namespace Go.Proofs.Ytmlbphmbffkdnaa
open Go.RowKit
set_option linter.unusedVariables false
set_option maxRecDepth 100000
theorem grow_trans {a b c : World} {row : Option Nat} (h : a.grownBy b row) (k : b.grownBy c row) : a.grownBy c row :=
  ⟨k.os.trans h.os, k.tape.trans h.tape, k.output.trans h.output, Nat.le_trans h.size k.size, fun i hi hr => (k.block i (Nat.lt_of_lt_of_le hi h.size) hr).trans (h.block i hi hr)⟩

set_option maxHeartbeats 800000 in
theorem c205 (x0 x1 x2 x3 : Int) (y0 y1 y2 y3 : Int) (w : World) : Calls Try.prog 205 #[entV x0 x1 x2 x3, entV y0 y1 y2 y3] w fun e w' => e = .returned (.bool (decide ((x0, x1, x2, x3) = (y0, y1, y2, y3)))) ∧ Below w.heap.size w w' := by
  by_cases q0 : x0 = y0
  case neg =>
    have HE : Hid (decide ((x0, x1, x2, x3) = (y0, y1, y2, y3)) = false) := by unfold Hid; rw [decide_eq_false_iff_not]; intro h; simp only [Prod.mk.injEq] at h; exact q0 h.1
    have b0 : (x0 != y0) = true := by rw [bne_iff_ne]; exact q0
    clear q0
    go_enter Try.func205, Try.ntmps205
    go_wp2_with fail
    go_ret
    exact ⟨ret_bool (unhide HE).symm, below_al (below_a _)⟩
  by_cases q1 : x1 = y1
  case neg =>
    have HE : Hid (decide ((x0, x1, x2, x3) = (y0, y1, y2, y3)) = false) := by unfold Hid; rw [decide_eq_false_iff_not]; intro h; simp only [Prod.mk.injEq] at h; exact q1 h.2.1
    have b1 : (x1 != y1) = true := by rw [bne_iff_ne]; exact q1
    have c0 : (x0 != y0) = false := by rw [bne_eq_false_iff_eq]; exact q0
    clear q0
    clear q1
    go_enter Try.func205, Try.ntmps205
    go_wp2_with fail
    go_ret
    exact ⟨ret_bool (unhide HE).symm, below_al (below_a _)⟩
  by_cases q2 : x2 = y2
  case neg =>
    have HE : Hid (decide ((x0, x1, x2, x3) = (y0, y1, y2, y3)) = false) := by unfold Hid; rw [decide_eq_false_iff_not]; intro h; simp only [Prod.mk.injEq] at h; exact q2 h.2.2.1
    have b2 : (x2 != y2) = true := by rw [bne_iff_ne]; exact q2
    have c0 : (x0 != y0) = false := by rw [bne_eq_false_iff_eq]; exact q0
    have c1 : (x1 != y1) = false := by rw [bne_eq_false_iff_eq]; exact q1
    clear q0
    clear q1
    clear q2
    go_enter Try.func205, Try.ntmps205
    go_wp2_with fail
    go_ret
    exact ⟨ret_bool (unhide HE).symm, below_al (below_a _)⟩
  by_cases q3 : x3 = y3
  case neg =>
    have HE : Hid (decide ((x0, x1, x2, x3) = (y0, y1, y2, y3)) = false) := by unfold Hid; rw [decide_eq_false_iff_not]; intro h; simp only [Prod.mk.injEq] at h; exact q3 h.2.2.2
    have b3 : (x3 != y3) = true := by rw [bne_iff_ne]; exact q3
    have c0 : (x0 != y0) = false := by rw [bne_eq_false_iff_eq]; exact q0
    have c1 : (x1 != y1) = false := by rw [bne_eq_false_iff_eq]; exact q1
    have c2 : (x2 != y2) = false := by rw [bne_eq_false_iff_eq]; exact q2
    clear q0
    clear q1
    clear q2
    clear q3
    go_enter Try.func205, Try.ntmps205
    go_wp2_with fail
    go_ret
    exact ⟨ret_bool (unhide HE).symm, below_al (below_a _)⟩
  subst q0 q1 q2 q3
  go_enter Try.func205, Try.ntmps205
  go_wp2_with fail
  go_ret
  exact ⟨ret_bool (by simp), below_al (below_a _)⟩

theorem ne_atE {xs ys : List Tm.Ent} {k : Nat} {x y : Tm.Ent} (hx : xs[k]? = some x) (hy : ys[k]? = some y) (h : x ≠ y) : decide (xs = ys) = false := by
  rw [decide_eq_false_iff_not]; intro e; subst e; rw [hx] at hy; cases hy; exact h rfl
theorem eq_allE {xs ys : List Tm.Ent} (hl : xs.length = ys.length) (h : ∀ j, j < xs.length → xs[j]? = ys[j]?) : decide (xs = ys) = true := by
  rw [decide_eq_true_iff]
  apply List.ext_getElem?
  intro j
  rcases Nat.lt_or_ge j xs.length with h1 | h1
  · exact h j h1
  · rw [List.getElem?_eq_none h1, List.getElem?_eq_none (by omega)]
theorem ne_lenE {xs ys : List Tm.Ent} (hl : xs.length ≠ ys.length) : decide (xs = ys) = false := by
  rw [decide_eq_false_iff_not]; intro e; subst e; exact hl rfl
theorem atE {xs : List Tm.Ent} {k : Nat} (h : k < xs.length) : ∃ x, xs[k]? = some x := ⟨xs[k], List.getElem?_eq_getElem h⟩

set_option maxHeartbeats 2000000 in
theorem c164 (xs ys : List Tm.Ent) (ao bo : Option Addr) (n cap m cap' : Nat) (w : World) (hn : xs.length = n) (hm : ys.length = m) (h1 : n ≤ 1048576) (h2 : m ≤ 1048576) (hr : ERow w ao xs) (hs : ERow w bo ys) :
    Calls Try.prog 164 #[.slice ao n cap, .slice bo m cap'] w fun e w' => e = .returned (.bool (decide (xs = ys))) ∧ Below w.heap.size w w' := by
  subst hn
  subst hm
  obtain ⟨-, hr⟩ := hr
  obtain ⟨-, hs⟩ := hs
  by_cases hl : xs.length = ys.length
  · have hL' : ((xs.length : Int) != (ys.length : Int)) = false := by simp [hl]
    have HL := hide hl
    have HR := hide hr
    have HS := hide hs
    clear hl hr hs
    go_enter Try.func164, Try.ntmps164
    go_wp2_with fail
    go_loopw [5] (fun i wr => ∃ k : Nat, k ≤ xs.length ∧ i = .int .i64 k ∧ (∀ j, j < k → xs[j]? = ys[j]?) ∧ Below w.heap.size w wr) (fun i _ => xs.length - (intOf i).toNat)
    case atStart => exact ⟨0, Nat.zero_le _, rfl, fun j hj => absurd hj (Nat.not_lt_zero _), Below.refl _ _⟩
    case round =>
      obtain ⟨k, hk, rfl, hall, hbel⟩ := hrel
      by_cases hlt : k < xs.length
      · obtain ⟨b, off, rfl, hc⟩ := unhide HR (by intro e; subst e; simp at hlt)
        obtain ⟨b', off', rfl, hc'⟩ := unhide HS (by intro e; subst e; have := HL.out; simp at this; subst this; simp at hlt)
        obtain ⟨⟨x0, x1, x2, x3⟩, hx⟩ := atE hlt
        obtain ⟨⟨y0, y1, y2, y3⟩, hy⟩ := atE (show k < ys.length by have := HL.out; omega)
        obtain ⟨g0, g1, g2, g3⟩ := e_cells hbel hc hx
        obtain ⟨h0, h1, h2, h3⟩ := e_cells hbel hc' hy
        have e1 : (k : Int) < (xs.length : Int) := by omega
        have e2 : (k : Int) < (ys.length : Int) := by have := HL.out; omega
        have e0 : (0 : Int) ≤ (k : Int) := by omega
        by_cases hxy : (x0, x1, x2, x3) = (y0, y1, y2, y3)
        · have HA : Hid (∀ j, j < k + 1 → xs[j]? = ys[j]?) := by
            intro j hj
            by_cases e : j = k
            · subst e; rw [hx, hy, hxy]
            · exact hall j (by omega)
          have HXY := hide (decide_eq_true hxy)
          have HB := hide hbel
          clear hall hxy hx hy hbel hc hc'
          go_wp2_with fail
          have hbq := below_drew wr
          go_region_held3 (fun w' => w'.cell? ⟨b, off + k * 4, none⟩ = some (.int .i64 x0) ∧ w'.cell? ⟨b, off + k * 4 + 1, none⟩ = some (.int .i64 x1) ∧ w'.cell? ⟨b, off + k * 4 + 2, none⟩ = some (.int .i64 x2) ∧ w'.cell? ⟨b, off + k * 4 + 3, none⟩ = some (.int .i64 x3) ∧ w'.cell? ⟨b', off' + k * 4, none⟩ = some (.int .i64 y0) ∧ w'.cell? ⟨b', off' + k * 4 + 1, none⟩ = some (.int .i64 y1) ∧ w'.cell? ⟨b', off' + k * 4 + 2, none⟩ = some (.int .i64 y2) ∧ w'.cell? ⟨b', off' + k * 4 + 3, none⟩ = some (.int .i64 y3)) (first | exact ⟨cell_below hbq g0, cell_below hbq g1, cell_below hbq g2, cell_below hbq g3, cell_below hbq h0, cell_below hbq h1, cell_below hbq h2, cell_below hbq h3⟩ | exact ⟨g0, g1, g2, g3, h0, h1, h2, h3⟩) ((go_at_call 205; refine (c205 x0 x1 x2 x3 y0 y1 y2 y3 _).mono ?_; rintro e w2 ⟨rfl, hb2⟩; have hbq := below_undrew hb2; rw [unhide HXY]))
          go_wp2_with fail
          go_roundw
          case rel => exact ⟨k + 1, by omega, by go_num, HA.out, below_tr (unhide HB) (by first | exact hbq | exact below_dn (Below.refl _ _) _)⟩
          case measure => simp [intOf]; omega
        · have HA := hide (ne_atE hx hy hxy)
          have HXY := hide (decide_eq_false hxy)
          have HB := hide hbel
          clear hall hxy hx hy hbel hc hc'
          go_wp2_with fail
          have hbq := below_drew wr
          go_region_held3 (fun w' => w'.cell? ⟨b, off + k * 4, none⟩ = some (.int .i64 x0) ∧ w'.cell? ⟨b, off + k * 4 + 1, none⟩ = some (.int .i64 x1) ∧ w'.cell? ⟨b, off + k * 4 + 2, none⟩ = some (.int .i64 x2) ∧ w'.cell? ⟨b, off + k * 4 + 3, none⟩ = some (.int .i64 x3) ∧ w'.cell? ⟨b', off' + k * 4, none⟩ = some (.int .i64 y0) ∧ w'.cell? ⟨b', off' + k * 4 + 1, none⟩ = some (.int .i64 y1) ∧ w'.cell? ⟨b', off' + k * 4 + 2, none⟩ = some (.int .i64 y2) ∧ w'.cell? ⟨b', off' + k * 4 + 3, none⟩ = some (.int .i64 y3)) (first | exact ⟨cell_below hbq g0, cell_below hbq g1, cell_below hbq g2, cell_below hbq g3, cell_below hbq h0, cell_below hbq h1, cell_below hbq h2, cell_below hbq h3⟩ | exact ⟨g0, g1, g2, g3, h0, h1, h2, h3⟩) ((go_at_call 205; refine (c205 x0 x1 x2 x3 y0 y1 y2 y3 _).mono ?_; rintro e w2 ⟨rfl, hb2⟩; have hbq := below_undrew hb2; rw [unhide HXY]))
          go_wp2_with fail
          go_ret
          exact ⟨ret_bool (unhide HA).symm, below_tr (unhide HB) (by first | exact hbq | exact below_dn (Below.refl _ _) _)⟩
      · have hke : k = xs.length := by omega
        subst hke
        have HA := hide (eq_allE HL.out hall)
        have HB := hide hbel
        clear hall hbel
        go_wp2_with fail
        go_ret
        exact ⟨ret_bool (unhide HA).symm, unhide HB⟩
  · have hL' : ((xs.length : Int) != (ys.length : Int)) = true := by rw [bne_iff_ne]; omega
    have HA := hide (ne_lenE hl)
    clear hr hs hl
    go_enter Try.func164, Try.ntmps164
    go_wp2_with fail
    go_ret
    exact ⟨ret_bool (unhide HA).symm, Below.refl _ _⟩

theorem putE {tt : TypeId} {wr : World} {base g cap n : Nat} {ys : List Tm.Ent} {k : Nat} (hown : wr.ownsRow base tt 4 (.slice (some ⟨g, 0, none⟩) n cap) n (ys.flatMap eCells)) (hl : ys.length = n) (hk : k < n) (x0 x1 x2 x3 : Int) :
    ((((wr.setCell ⟨g, k * 4, none⟩ (.int .i64 x0)).setCell ⟨g, k * 4 + 1, none⟩ (.int .i64 x1)).setCell ⟨g, k * 4 + 2, none⟩ (.int .i64 x2)).setCell ⟨g, k * 4 + 3, none⟩ (.int .i64 x3)).ownsRow base tt 4 (.slice (some ⟨g, 0, none⟩) n cap) n ((ys.set k (x0, x1, x2, x3)).flatMap eCells) ∧ wr.grownBy ((((wr.setCell ⟨g, k * 4, none⟩ (.int .i64 x0)).setCell ⟨g, k * 4 + 1, none⟩ (.int .i64 x1)).setCell ⟨g, k * 4 + 2, none⟩ (.int .i64 x2)).setCell ⟨g, k * 4 + 3, none⟩ (.int .i64 x3)) (some g) ∧
    (∃ v, wr.cell? ⟨g, k * 4, none⟩ = some v) ∧ (∃ v, wr.cell? ⟨g, k * 4 + 1, none⟩ = some v) ∧ (∃ v, wr.cell? ⟨g, k * 4 + 2, none⟩ = some v) ∧ (∃ v, wr.cell? ⟨g, k * 4 + 3, none⟩ = some v) ∧  (∀ j, wr.frozen? ⟨g, j, none⟩ = false) := by
  have hlen : (ys.flatMap eCells).length = n * 4 := by rw [flat_len eCells 4 eCells_len, hl]
  have hc : ∀ i, i < 4 → ∃ v, wr.cell? ⟨g, k * 4 + i, none⟩ = some v := by
    intro i hi
    have h1 : k * 4 + i < n * 4 := by omega
    rw [hown.cellAt (k * 4 + i) h1]
    exact ⟨_, List.getElem?_eq_getElem (by rw [hlen]; exact h1)⟩

  have s0 := hown.stored (k * 4) (.int .i64 x0)
  have s1 := s0.1.stored (k * 4 + 1) (.int .i64 x1)
  have s2 := s1.1.stored (k * 4 + 2) (.int .i64 x2)
  have s3 := s2.1.stored (k * 4 + 3) (.int .i64 x3)
  refine ⟨?_, grow_trans (grow_trans (grow_trans (s0.2) s1.2) s2.2) s3.2, hc 0 (by decide), hc 1 (by decide), hc 2 (by decide), hc 3 (by decide),  fun j => hown.frozenAt j⟩
  have e := flat_set eCells 4 eCells_len ys k (x0, x1, x2, x3) (by omega)
  rw [← e]
  exact s3.1

set_option maxHeartbeats 1000000 in
theorem c162 (xs : List Tm.Ent) (ao : Option Addr) (n cap : Nat) (w : World) (hn : xs.length = n) (hm : n ≤ 1048576) (hr : ERow w ao xs) :
    Calls Try.prog 162 #[.slice ao n cap] w fun e w' => e = .returned (.slice (some ⟨w.heap.size, 0, none⟩) n n) ∧ EOwn w' w.heap.size (.slice (some ⟨w.heap.size, 0, none⟩) n n) xs ∧ Below w.heap.size w w' := by
  subst hn
  obtain ⟨hf, hr⟩ := hr
  have HF := hide hf
  have HR := hide hr
  clear hf hr
  obtain ⟨i0, hi, hz0, hz1, hz2⟩ := info_parts Try.infoE
  go_enter Try.func162, Try.ntmps162
  go_wp2_with (first | (at_make; refine wpList_make_full _ rfl _ _ 25 rfl w.heap.size 134 i0 _ 4 Try.underlying25 hi hz0 hz1 _ _ _ _ xs.length rfl rfl rfl rfl (by rw [hz2]; omega) (by unfold maxLen; omega) (Nat.le_refl _) ?_; intro w1 hown hgrow) | fail)
  have hb1 : Below w.heap.size w w1 := (Below.refl _ _).grown hgrow (Nat.le_refl _) (fun k hk => by cases hk)
  have hown0 : w1.ownsRow w.heap.size 134 4 (.slice (some ⟨w.heap.size, 0, none⟩) xs.length xs.length) xs.length ((madeS (0, 0, 0, 0) xs 0).flatMap eCells) := by
    rw [madeS_zero, ← made_flat eCells 4 ((0, 0, 0, 0) : Tm.Ent) _ rfl rfl (by decide)]
    exact hown
  clear hown hgrow
  go_loopw [4] (fun i wr => ∃ k : Nat, k ≤ xs.length ∧ i = .int .i64 k ∧ wr.ownsRow w.heap.size 134 4 (.slice (some ⟨w.heap.size, 0, none⟩) xs.length xs.length) xs.length ((madeS (0, 0, 0, 0) xs k).flatMap eCells) ∧ Below w.heap.size w wr) (fun i _ => xs.length - (intOf i).toNat)
  case atStart => exact ⟨0, Nat.zero_le _, rfl, hown0, hb1⟩
  case round =>
    obtain ⟨k, hk, rfl, hown, hbel⟩ := hrel
    clear hown0 hb1
    by_cases hlt : k < xs.length
    · obtain ⟨b, off, rfl, hc⟩ := unhide HR (by intro e; subst e; simp at hlt)
      obtain ⟨⟨x0, x1, x2, x3⟩, hx⟩ := atE hlt
      obtain ⟨g0, g1, g2, g3⟩ := e_cells hbel hc hx
      have HMS := hide (madeS_set (0, 0, 0, 0) xs k (x0, x1, x2, x3) hx)
      have HML := hide (madeS_len (0, 0, 0, 0) xs k hk)
      have HOW := hide hown
      have HBE := hide hbel
      clear hown hbel hc hx
      go_wp2_with fail
      refine (c203 x0 x1 x2 x3 _).mono ?_
      rintro e w2 ⟨rfl, hb2⟩
      obtain ⟨p1, p2, ⟨o0, k0⟩, ⟨o1, k1⟩, ⟨o2, k2⟩, ⟨o3, k3⟩, pf⟩ := putE (owns_below (unhide HOW) hb2) (unhide HML) hlt x0 x1 x2 x3
      have pf := pf
      have H1 := hide p1
      have H2 := hide (Below.grown (below_tr (unhide HBE) hb2) p2 (below_tr (unhide HBE) hb2).size (fun k hk => by cases hk; exact Nat.le_refl _))
      clear p1 p2 hb2
      go_wp2_with fail
      go_roundw
      case rel => exact ⟨k + 1, by omega, by go_num, by rw [← unhide HMS]; exact unhide H1, unhide H2⟩
      case measure => simp [intOf]; omega
    · have hke : k = xs.length := by omega
      subst hke
      rw [madeS_all] at hown
      have H1 := hide hown
      have HB := hide hbel
      clear hown hbel
      go_wp2_with fail
      go_ret
      exact ⟨rfl, ⟨unhide HF, unhide H1⟩, unhide HB⟩

/-- the mark of an element -/
def mkE (j : Nat) : Tm.Ent := (4 * (j : Int) + 1, 4 * (j : Int) + 2, 4 * (j : Int) + 3, 4 * (j : Int) + 4)
end Go.Proofs.Ytmlbphmbffkdnaa
namespace Go.Proofs.Ytmlbphmbffkdnaa
open Go.RowKit
set_option linter.unusedVariables false
set_option maxRecDepth 100000

/-- a row as a value -/
abbrev rowV (x0 x1 : Int) (x2 : Bool) : Value := .agg #[.int .i64 x0, .int .i64 x1, .bool x2]
theorem putR {tt : TypeId} {wr : World} {base g cap n : Nat} {ys : List Tm.Rw} {k : Nat} (hown : wr.ownsRow base tt 3 (.slice (some ⟨g, 0, none⟩) n cap) n (ys.flatMap rCells)) (hl : ys.length = n) (hk : k < n) (x0 x1 : Int) (x2 : Bool) :
    (((wr.setCell ⟨g, k * 3, none⟩ (.int .i64 x0)).setCell ⟨g, k * 3 + 1, none⟩ (.int .i64 x1)).setCell ⟨g, k * 3 + 2, none⟩ (.bool x2)).ownsRow base tt 3 (.slice (some ⟨g, 0, none⟩) n cap) n ((ys.set k (x0, x1, x2)).flatMap rCells) ∧ wr.grownBy (((wr.setCell ⟨g, k * 3, none⟩ (.int .i64 x0)).setCell ⟨g, k * 3 + 1, none⟩ (.int .i64 x1)).setCell ⟨g, k * 3 + 2, none⟩ (.bool x2)) (some g) ∧
    (∃ v, wr.cell? ⟨g, k * 3, none⟩ = some v) ∧ (∃ v, wr.cell? ⟨g, k * 3 + 1, none⟩ = some v) ∧ (∃ v, wr.cell? ⟨g, k * 3 + 2, none⟩ = some v) ∧  (∀ j, wr.frozen? ⟨g, j, none⟩ = false) := by
  have hlen : (ys.flatMap rCells).length = n * 3 := by rw [flat_len rCells 3 rCells_len, hl]
  have hc : ∀ i, i < 3 → ∃ v, wr.cell? ⟨g, k * 3 + i, none⟩ = some v := by
    intro i hi
    have h1 : k * 3 + i < n * 3 := by omega
    rw [hown.cellAt (k * 3 + i) h1]
    exact ⟨_, List.getElem?_eq_getElem (by rw [hlen]; exact h1)⟩

  have s0 := hown.stored (k * 3) (.int .i64 x0)
  have s1 := s0.1.stored (k * 3 + 1) (.int .i64 x1)
  have s2 := s1.1.stored (k * 3 + 2) (.bool x2)
  refine ⟨?_, grow_trans (grow_trans (s0.2) s1.2) s2.2, hc 0 (by decide), hc 1 (by decide), hc 2 (by decide),  fun j => hown.frozenAt j⟩
  have e := flat_set rCells 3 rCells_len ys k (x0, x1, x2) (by omega)
  rw [← e]
  exact s2.1

/-- the mark of an element -/
def mkR (j : Nat) : Tm.Rw := (3 * (j : Int) + 1, 3 * (j : Int) + 1 + 1, (3 * (j : Int) + 1 + 1 + 1) % 3 == 0)
end Go.Proofs.Ytmlbphmbffkdnaa
