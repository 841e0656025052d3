/-
  The walks of the laws' own helpers over lists of HedHead.
-/
import Derived.Test.YtmlbphmbffkdnaaHeda
namespace Go.Proofs.Ytmlbphmbffkdnaa
open Go.RowKit
set_option linter.unusedVariables false
set_option maxRecDepth 100000

/-- a head: size, log, own -/
abbrev Tm.Hed := Int × Int × Int
def wCells (d : Tm.Hed) : List Value := [.int .i64 d.1, .int .i64 d.2.1, .int .i64 d.2.2]
theorem wCells_len (d : Tm.Hed) : (wCells d).length = 3 := rfl
def FitW (d : Tm.Hed) : Prop := True
theorem w_cells {w w' : World} {b off k : Nat} {ds : List Tm.Hed} (hb : Below w.heap.size w w') (hc : ∀ j v, (ds.flatMap wCells)[j]? = some v → w.cell? ⟨b, off + j, none⟩ = some v) {a c d : Int} (hk : ds[k]? = some (a, c, d)) :
    w'.cell? ⟨b, off + k * 3, none⟩ = some (.int .i64 a) ∧ w'.cell? ⟨b, off + k * 3 + 1, none⟩ = some (.int .i64 c) ∧ w'.cell? ⟨b, off + k * 3 + 2, none⟩ = some (.int .i64 d) :=
  ⟨cell_bl hb (Sl.at wCells_len hc hk 0 rfl), cell_bl hb (Sl.at wCells_len hc hk 1 rfl), cell_bl hb (Sl.at wCells_len hc hk 2 rfl)⟩
def WRow (w : World) (ao : Option Addr) (ds : List Tm.Hed) : Prop := (∀ d ∈ ds, FitW d) ∧ Sl wCells w ao ds
def WOwn (w : World) (base : Nat) (v : Value) (ds : List Tm.Hed) : Prop := (∀ d ∈ ds, FitW d) ∧ w.ownsRow base 61 3 v ds.length (ds.flatMap wCells)
theorem Try.infoW : (Try.prog.info? 61).map (fun i => (i.zero, i.size, i.bytes)) = some (some (.agg #[.int .i64 0, .int .i64 0, .int .i64 0]), 3, 24) := by kernel_rfl
theorem WOwn.row {w : World} {base : Nat} {v : Value} {ds : List Tm.Hed} (h : WOwn w base v ds) :
    ∃ ao cap, v = .slice ao ds.length cap ∧ ds.length ≤ cap ∧ WRow w ao ds ∧ (∀ a, ao = some a → base ≤ a.block ∧ a.block < w.heap.size) := by
  obtain ⟨ao, cap, h1, h2, h3, h4⟩ := owns_read wCells_len h.2
  exact ⟨ao, cap, h1, h2, ⟨h.1, h3⟩, h4⟩
theorem WOwn.bel {w w' : World} {base : Nat} {v : Value} {ds : List Tm.Hed} (h : WOwn w base v ds) (hb : Below w.heap.size w w') : WOwn w' base v ds := ⟨h.1, owns_below h.2 hb⟩
theorem WRow.bel {w w' : World} {ao : Option Addr} {ds : List Tm.Hed} (h : WRow w ao ds) (hb : Below w.heap.size w w') : WRow w' ao ds := ⟨h.1, h.2.below hb⟩
theorem WRow.any {w : World} {ao : Option Addr} {ds : List Tm.Hed} (h : Sl wCells w ao ds) : WRow w ao ds := ⟨fun _ _ => trivial, h⟩
theorem WOwn.rd {w : World} {base n cap : Nat} {ao : Option Addr} {xs : List Tm.Hed} (hn : xs.length = n) (h : WOwn w base (.slice ao n cap) xs) : WRow w ao xs := by
  obtain ⟨f, h2⟩ := h
  rw [hn] at h2
  exact ⟨f, owns_row wCells_len hn h2⟩
theorem WRow.kpt {w w' : World} {ao : Option Addr} {xs : List Tm.Hed} {row : Option Nat} (h : WRow w ao xs) (hg : w.grownBy w' row) (hne : ∀ a, ao = some a → some a.block ≠ row) : WRow w' ao xs := ⟨h.1, h.2.kept hg hne⟩
theorem WOwn.kpt {w w' : World} {base : Nat} {v : Value} {xs : List Tm.Hed} {row : Option Nat} (h : WOwn w base v xs) (hg : w.grownBy w' row) (hne : ∀ b, v.ownBlock = some b → some b ≠ row) : WOwn w' base v xs := ⟨h.1, ownsK h.2 hg hne⟩
theorem own_ltW {w : World} {base g n cap : Nat} {xs : List Tm.Hed} (h : WOwn w base (.slice (some ⟨g, 0, none⟩) n cap) xs) : g < w.heap.size := owns_lt h.2

theorem ne_atW {xs ys : List Tm.Hed} {k : Nat} {x y : Tm.Hed} (hx : xs[k]? = some x) (hy : ys[k]? = some y) (h : x ≠ y) : decide (xs = ys) = false := by
  rw [decide_eq_false_iff_not]; intro e; subst e; rw [hx] at hy; cases hy; exact h rfl
theorem eq_allW {xs ys : List Tm.Hed} (hl : xs.length = ys.length) (h : ∀ j, j < xs.length → xs[j]? = ys[j]?) : decide (xs = ys) = true := by
  rw [decide_eq_true_iff]
  apply List.ext_getElem?
  intro j
  rcases Nat.lt_or_ge j xs.length with h1 | h1
  · exact h j h1
  · rw [List.getElem?_eq_none h1, List.getElem?_eq_none (by omega)]
theorem ne_lenW {xs ys : List Tm.Hed} (hl : xs.length ≠ ys.length) : decide (xs = ys) = false := by
  rw [decide_eq_false_iff_not]; intro e; subst e; exact hl rfl
theorem atW {xs : List Tm.Hed} {k : Nat} (h : k < xs.length) : ∃ x, xs[k]? = some x := ⟨xs[k], List.getElem?_eq_getElem h⟩

set_option maxHeartbeats 2000000 in
theorem c78 (xs ys : List Tm.Hed) (ao bo : Option Addr) (n cap m cap' : Nat) (w : World) (hn : xs.length = n) (hm : ys.length = m) (h1 : n ≤ 1048576) (h2 : m ≤ 1048576) (hr : WRow w ao xs) (hs : WRow w bo ys) :
    Calls Try.prog 78 #[.slice ao n cap, .slice bo m cap'] w fun e w' => e = .returned (.bool (decide (xs = ys))) ∧ Below w.heap.size w w' := by
  subst hn
  subst hm
  obtain ⟨-, hr⟩ := hr
  obtain ⟨-, hs⟩ := hs
  by_cases hl : xs.length = ys.length
  · have hL' : ((xs.length : Int) != (ys.length : Int)) = false := by simp [hl]
    have HL := hide hl
    have HR := hide hr
    have HS := hide hs
    clear hl hr hs
    go_enter Try.func78, Try.ntmps78
    go_wp2_with fail
    go_loopw [5] (fun i wr => ∃ k : Nat, k ≤ xs.length ∧ i = .int .i64 k ∧ (∀ j, j < k → xs[j]? = ys[j]?) ∧ Below w.heap.size w wr) (fun i _ => xs.length - (intOf i).toNat)
    case atStart => exact ⟨0, Nat.zero_le _, rfl, fun j hj => absurd hj (Nat.not_lt_zero _), Below.refl _ _⟩
    case round =>
      obtain ⟨k, hk, rfl, hall, hbel⟩ := hrel
      by_cases hlt : k < xs.length
      · obtain ⟨b, off, rfl, hc⟩ := unhide HR (by intro e; subst e; simp at hlt)
        obtain ⟨b', off', rfl, hc'⟩ := unhide HS (by intro e; subst e; have := HL.out; simp at this; subst this; simp at hlt)
        obtain ⟨⟨x0, x1, x2⟩, hx⟩ := atW hlt
        obtain ⟨⟨y0, y1, y2⟩, hy⟩ := atW (show k < ys.length by have := HL.out; omega)
        obtain ⟨g0, g1, g2⟩ := w_cells hbel hc hx
        obtain ⟨h0, h1, h2⟩ := w_cells hbel hc' hy
        have e1 : (k : Int) < (xs.length : Int) := by omega
        have e2 : (k : Int) < (ys.length : Int) := by have := HL.out; omega
        have e0 : (0 : Int) ≤ (k : Int) := by omega
        by_cases hxy : (x0, x1, x2) = (y0, y1, y2)
        · have HA : Hid (∀ j, j < k + 1 → xs[j]? = ys[j]?) := by
            intro j hj
            by_cases e : j = k
            · subst e; rw [hx, hy, hxy]
            · exact hall j (by omega)
          have HXY := hide (decide_eq_true hxy)
          have HB := hide hbel
          clear hall hxy hx hy hbel hc hc'
          go_wp2_with fail
          have hbq := below_drew wr
          go_region_held3 (fun w' => w'.cell? ⟨b, off + k * 3, none⟩ = some (.int .i64 x0) ∧ w'.cell? ⟨b, off + k * 3 + 1, none⟩ = some (.int .i64 x1) ∧ w'.cell? ⟨b, off + k * 3 + 2, none⟩ = some (.int .i64 x2) ∧ w'.cell? ⟨b', off' + k * 3, none⟩ = some (.int .i64 y0) ∧ w'.cell? ⟨b', off' + k * 3 + 1, none⟩ = some (.int .i64 y1) ∧ w'.cell? ⟨b', off' + k * 3 + 2, none⟩ = some (.int .i64 y2)) (first | exact ⟨cell_below hbq g0, cell_below hbq g1, cell_below hbq g2, cell_below hbq h0, cell_below hbq h1, cell_below hbq h2⟩ | exact ⟨g0, g1, g2, h0, h1, h2⟩) ((go_at_call 79; refine (c79 x0 x1 x2 y0 y1 y2 _).mono ?_; rintro e w2 ⟨rfl, hb2⟩; have hbq := below_undrew hb2; rw [unhide HXY]))
          go_wp2_with fail
          go_roundw
          case rel => exact ⟨k + 1, by omega, by go_num, HA.out, below_tr (unhide HB) (by first | exact hbq | exact below_dn (Below.refl _ _) _)⟩
          case measure => simp [intOf]; omega
        · have HA := hide (ne_atW hx hy hxy)
          have HXY := hide (decide_eq_false hxy)
          have HB := hide hbel
          clear hall hxy hx hy hbel hc hc'
          go_wp2_with fail
          have hbq := below_drew wr
          go_region_held3 (fun w' => w'.cell? ⟨b, off + k * 3, none⟩ = some (.int .i64 x0) ∧ w'.cell? ⟨b, off + k * 3 + 1, none⟩ = some (.int .i64 x1) ∧ w'.cell? ⟨b, off + k * 3 + 2, none⟩ = some (.int .i64 x2) ∧ w'.cell? ⟨b', off' + k * 3, none⟩ = some (.int .i64 y0) ∧ w'.cell? ⟨b', off' + k * 3 + 1, none⟩ = some (.int .i64 y1) ∧ w'.cell? ⟨b', off' + k * 3 + 2, none⟩ = some (.int .i64 y2)) (first | exact ⟨cell_below hbq g0, cell_below hbq g1, cell_below hbq g2, cell_below hbq h0, cell_below hbq h1, cell_below hbq h2⟩ | exact ⟨g0, g1, g2, h0, h1, h2⟩) ((go_at_call 79; refine (c79 x0 x1 x2 y0 y1 y2 _).mono ?_; rintro e w2 ⟨rfl, hb2⟩; have hbq := below_undrew hb2; rw [unhide HXY]))
          go_wp2_with fail
          go_ret
          exact ⟨ret_bool (unhide HA).symm, below_tr (unhide HB) (by first | exact hbq | exact below_dn (Below.refl _ _) _)⟩
      · have hke : k = xs.length := by omega
        subst hke
        have HA := hide (eq_allW HL.out hall)
        have HB := hide hbel
        clear hall hbel
        go_wp2_with fail
        go_ret
        exact ⟨ret_bool (unhide HA).symm, unhide HB⟩
  · have hL' : ((xs.length : Int) != (ys.length : Int)) = true := by rw [bne_iff_ne]; omega
    have HA := hide (ne_lenW hl)
    clear hr hs hl
    go_enter Try.func78, Try.ntmps78
    go_wp2_with fail
    go_ret
    exact ⟨ret_bool (unhide HA).symm, Below.refl _ _⟩

set_option maxHeartbeats 2000000 in
theorem c70 (xs ys : List Tm.Hed) (ao bo : Option Addr) (n cap m cap' : Nat) (w : World) (hn : xs.length = n) (hm : ys.length = m) (h1 : n ≤ 1048576) (h2 : m ≤ 1048576) (hr : WRow w ao xs) (hs : WRow w bo ys) :
    Calls Try.prog 70 #[.slice ao n cap, .slice bo m cap'] w fun e w' => e = .returned (.bool (decide (xs = ys))) ∧ Below w.heap.size w w' := by
  subst hn
  subst hm
  obtain ⟨-, hr⟩ := hr
  obtain ⟨-, hs⟩ := hs
  by_cases hl : xs.length = ys.length
  · have hL' : ((xs.length : Int) != (ys.length : Int)) = false := by simp [hl]
    have HL := hide hl
    have HR := hide hr
    have HS := hide hs
    clear hl hr hs
    go_enter Try.func70, Try.ntmps70
    go_wp2_with fail
    go_loopw [5] (fun i wr => ∃ k : Nat, k ≤ xs.length ∧ i = .int .i64 k ∧ (∀ j, j < k → xs[j]? = ys[j]?) ∧ Below w.heap.size w wr) (fun i _ => xs.length - (intOf i).toNat)
    case atStart => exact ⟨0, Nat.zero_le _, rfl, fun j hj => absurd hj (Nat.not_lt_zero _), Below.refl _ _⟩
    case round =>
      obtain ⟨k, hk, rfl, hall, hbel⟩ := hrel
      by_cases hlt : k < xs.length
      · obtain ⟨b, off, rfl, hc⟩ := unhide HR (by intro e; subst e; simp at hlt)
        obtain ⟨b', off', rfl, hc'⟩ := unhide HS (by intro e; subst e; have := HL.out; simp at this; subst this; simp at hlt)
        obtain ⟨⟨x0, x1, x2⟩, hx⟩ := atW hlt
        obtain ⟨⟨y0, y1, y2⟩, hy⟩ := atW (show k < ys.length by have := HL.out; omega)
        obtain ⟨g0, g1, g2⟩ := w_cells hbel hc hx
        obtain ⟨h0, h1, h2⟩ := w_cells hbel hc' hy
        have e1 : (k : Int) < (xs.length : Int) := by omega
        have e2 : (k : Int) < (ys.length : Int) := by have := HL.out; omega
        have e0 : (0 : Int) ≤ (k : Int) := by omega
        by_cases hxy : (x0, x1, x2) = (y0, y1, y2)
        · have HA : Hid (∀ j, j < k + 1 → xs[j]? = ys[j]?) := by
            intro j hj
            by_cases e : j = k
            · subst e; rw [hx, hy, hxy]
            · exact hall j (by omega)
          have HXY := hide (decide_eq_true hxy)
          have HB := hide hbel
          simp only [Prod.mk.injEq] at hxy
          obtain ⟨q0, q1, q2⟩ := hxy
          subst q0 q1 q2
          clear hall hx hy hbel hc hc' HXY
          go_wp2_with fail
          go_quiet (fail)
          go_wp2_with fail
          go_roundw
          case rel => exact ⟨k + 1, by omega, by go_num, HA.out, below_tr (unhide HB) (by first | exact hbq | exact below_dn (Below.refl _ _) _)⟩
          case measure => simp [intOf]; omega
        · have HA := hide (ne_atW hx hy hxy)
          have HXY := hide (decide_eq_false hxy)
          have HB := hide hbel
          clear hall hx hy hbel hc hc'
          have hd : (x0 ≠ y0) ∨ (x0 = y0 ∧ x1 ≠ y1) ∨ (x0 = y0 ∧ x1 = y1 ∧ x2 ≠ y2) := by
            simp only [Prod.mk.injEq] at hxy
            by_cases q0 : x0 = y0
            case neg => exact Or.inl q0
            by_cases q1 : x1 = y1
            case neg => exact Or.inr (Or.inl ⟨q0, q1⟩)
            by_cases q2 : x2 = y2
            case neg => exact Or.inr (Or.inr (⟨q0, q1, q2⟩))
            exact absurd ⟨q0, q1, q2⟩ hxy
          clear hxy HXY
          rcases hd with q0 | ⟨rfl, q1⟩ | ⟨rfl, rfl, q2⟩
          · have b0 : (x0 == y0) = false := by rw [beq_eq_false_iff_ne]; exact q0
            clear q0
            go_wp2_with fail
            go_quiet (fail)
            go_wp2_with fail
            go_ret
            exact ⟨ret_bool (unhide HA).symm, below_tr (unhide HB) (by first | exact hbq | exact below_dn (Below.refl _ _) _)⟩
          · have b1 : (x1 == y1) = false := by rw [beq_eq_false_iff_ne]; exact q1
            clear q1
            go_wp2_with fail
            go_quiet (fail)
            go_wp2_with fail
            go_ret
            exact ⟨ret_bool (unhide HA).symm, below_tr (unhide HB) (by first | exact hbq | exact below_dn (Below.refl _ _) _)⟩
          · have b2 : (x2 == y2) = false := by rw [beq_eq_false_iff_ne]; exact q2
            clear q2
            go_wp2_with fail
            go_quiet (fail)
            go_wp2_with fail
            go_ret
            exact ⟨ret_bool (unhide HA).symm, below_tr (unhide HB) (by first | exact hbq | exact below_dn (Below.refl _ _) _)⟩
      · have hke : k = xs.length := by omega
        subst hke
        have HA := hide (eq_allW HL.out hall)
        have HB := hide hbel
        clear hall hbel
        go_wp2_with fail
        go_ret
        exact ⟨ret_bool (unhide HA).symm, unhide HB⟩
  · have hL' : ((xs.length : Int) != (ys.length : Int)) = true := by rw [bne_iff_ne]; omega
    have HA := hide (ne_lenW hl)
    clear hr hs hl
    go_enter Try.func70, Try.ntmps70
    go_wp2_with fail
    go_ret
    exact ⟨ret_bool (unhide HA).symm, Below.refl _ _⟩

set_option maxHeartbeats 400000 in
theorem sgW (ao : Option Addr) (n cap l : Nat) (w : World) (hl : l ≤ 1048576) (hn : n ≤ 9223372036854775807) : Calls Try.prog 75 #[.slice ao n cap, .int .i64 (l : Int)] w fun e w' => e = .returned (.int .i64 (if n ≤ l then (l : Int) - (n : Int) else -1)) ∧ w' = w := by
  by_cases h : n ≤ l
  · have HE : Hid ((if n ≤ l then (l : Int) - (n : Int) else -1) = (l : Int) - (n : Int)) := by unfold Hid; rw [if_pos h]
    have h2 : ¬ ((l : Int) - (n : Int) < 0) := by omega
    go_enter Try.func75, Try.ntmps75
    go_wp2_with fail
    go_ret
    exact ⟨rfl, rfl⟩
  · have HE : Hid ((if n ≤ l then (l : Int) - (n : Int) else -1) = -1) := by unfold Hid; rw [if_neg h]
    have h2 : (l : Int) - (n : Int) < 0 := by omega
    go_enter Try.func75, Try.ntmps75
    go_wp2_with fail
    go_ret
    exact ⟨rfl, rfl⟩
set_option maxHeartbeats 400000 in
theorem sgE (ao : Option Addr) (n cap l : Nat) (w : World) (hl : l ≤ 1048576) (hn : n ≤ 9223372036854775807) : Calls Try.prog 159 #[.slice ao n cap, .int .i64 (l : Int)] w fun e w' => e = .returned (.int .i64 (if n ≤ l then (l : Int) - (n : Int) else -1)) ∧ w' = w := by
  by_cases h : n ≤ l
  · have HE : Hid ((if n ≤ l then (l : Int) - (n : Int) else -1) = (l : Int) - (n : Int)) := by unfold Hid; rw [if_pos h]
    have h2 : ¬ ((l : Int) - (n : Int) < 0) := by omega
    go_enter Try.func159, Try.ntmps159
    go_wp2_with fail
    go_ret
    exact ⟨rfl, rfl⟩
  · have HE : Hid ((if n ≤ l then (l : Int) - (n : Int) else -1) = -1) := by unfold Hid; rw [if_neg h]
    have h2 : (l : Int) - (n : Int) < 0 := by omega
    go_enter Try.func159, Try.ntmps159
    go_wp2_with fail
    go_ret
    exact ⟨rfl, rfl⟩

theorem putW {tt : TypeId} {wr : World} {base g cap n : Nat} {ys : List Tm.Hed} {k : Nat} (hown : wr.ownsRow base tt 3 (.slice (some ⟨g, 0, none⟩) n cap) n (ys.flatMap wCells)) (hl : ys.length = n) (hk : k < n) (x0 x1 x2 : Int) :
    (((wr.setCell ⟨g, k * 3, none⟩ (.int .i64 x0)).setCell ⟨g, k * 3 + 1, none⟩ (.int .i64 x1)).setCell ⟨g, k * 3 + 2, none⟩ (.int .i64 x2)).ownsRow base tt 3 (.slice (some ⟨g, 0, none⟩) n cap) n ((ys.set k (x0, x1, x2)).flatMap wCells) ∧ wr.grownBy (((wr.setCell ⟨g, k * 3, none⟩ (.int .i64 x0)).setCell ⟨g, k * 3 + 1, none⟩ (.int .i64 x1)).setCell ⟨g, k * 3 + 2, none⟩ (.int .i64 x2)) (some g) ∧
    (∃ v, wr.cell? ⟨g, k * 3, none⟩ = some v) ∧ (∃ v, wr.cell? ⟨g, k * 3 + 1, none⟩ = some v) ∧ (∃ v, wr.cell? ⟨g, k * 3 + 2, none⟩ = some v) ∧  (∀ j, wr.frozen? ⟨g, j, none⟩ = false) := by
  have hlen : (ys.flatMap wCells).length = n * 3 := by rw [flat_len wCells 3 wCells_len, hl]
  have hc : ∀ i, i < 3 → ∃ v, wr.cell? ⟨g, k * 3 + i, none⟩ = some v := by
    intro i hi
    have h1 : k * 3 + i < n * 3 := by omega
    rw [hown.cellAt (k * 3 + i) h1]
    exact ⟨_, List.getElem?_eq_getElem (by rw [hlen]; exact h1)⟩

  have s0 := hown.stored (k * 3) (.int .i64 x0)
  have s1 := s0.1.stored (k * 3 + 1) (.int .i64 x1)
  have s2 := s1.1.stored (k * 3 + 2) (.int .i64 x2)
  refine ⟨?_, grow_trans (grow_trans (s0.2) s1.2) s2.2, hc 0 (by decide), hc 1 (by decide), hc 2 (by decide),  fun j => hown.frozenAt j⟩
  have e := flat_set wCells 3 wCells_len ys k (x0, x1, x2) (by omega)
  rw [← e]
  exact s2.1

set_option maxHeartbeats 1000000 in
theorem c76 (xs : List Tm.Hed) (ao : Option Addr) (n cap : Nat) (w : World) (hn : xs.length = n) (hm : n ≤ 1048576) (hr : WRow w ao xs) :
    Calls Try.prog 76 #[.slice ao n cap] w fun e w' => e = .returned (.slice (some ⟨w.heap.size, 0, none⟩) n n) ∧ WOwn w' w.heap.size (.slice (some ⟨w.heap.size, 0, none⟩) n n) xs ∧ Below w.heap.size w w' := by
  subst hn
  obtain ⟨hf, hr⟩ := hr
  have HF := hide hf
  have HR := hide hr
  clear hf hr
  obtain ⟨i0, hi, hz0, hz1, hz2⟩ := info_parts Try.infoW
  go_enter Try.func76, Try.ntmps76
  go_wp2_with (first | (at_make; refine wpList_make_full _ rfl _ _ 77 rfl w.heap.size 61 i0 _ 3 Try.underlying77 hi hz0 hz1 _ _ _ _ xs.length rfl rfl rfl rfl (by rw [hz2]; omega) (by unfold maxLen; omega) (Nat.le_refl _) ?_; intro w1 hown hgrow) | fail)
  have hb1 : Below w.heap.size w w1 := (Below.refl _ _).grown hgrow (Nat.le_refl _) (fun k hk => by cases hk)
  have hown0 : w1.ownsRow w.heap.size 61 3 (.slice (some ⟨w.heap.size, 0, none⟩) xs.length xs.length) xs.length ((madeS (0, 0, 0) xs 0).flatMap wCells) := by
    rw [madeS_zero, ← made_flat wCells 3 ((0, 0, 0) : Tm.Hed) _ rfl rfl (by decide)]
    exact hown
  clear hown hgrow
  go_loopw [4] (fun i wr => ∃ k : Nat, k ≤ xs.length ∧ i = .int .i64 k ∧ wr.ownsRow w.heap.size 61 3 (.slice (some ⟨w.heap.size, 0, none⟩) xs.length xs.length) xs.length ((madeS (0, 0, 0) xs k).flatMap wCells) ∧ Below w.heap.size w wr) (fun i _ => xs.length - (intOf i).toNat)
  case atStart => exact ⟨0, Nat.zero_le _, rfl, hown0, hb1⟩
  case round =>
    obtain ⟨k, hk, rfl, hown, hbel⟩ := hrel
    clear hown0 hb1
    by_cases hlt : k < xs.length
    · obtain ⟨b, off, rfl, hc⟩ := unhide HR (by intro e; subst e; simp at hlt)
      obtain ⟨⟨x0, x1, x2⟩, hx⟩ := atW hlt
      obtain ⟨g0, g1, g2⟩ := w_cells hbel hc hx
      have HMS := hide (madeS_set (0, 0, 0) xs k (x0, x1, x2) hx)
      have HML := hide (madeS_len (0, 0, 0) xs k hk)
      have HOW := hide hown
      have HBE := hide hbel
      clear hown hbel hc hx
      go_wp2_with fail
      refine (c77 x0 x1 x2 _).mono ?_
      rintro e w2 ⟨rfl, hb2⟩
      obtain ⟨p1, p2, ⟨o0, k0⟩, ⟨o1, k1⟩, ⟨o2, k2⟩, pf⟩ := putW (owns_below (unhide HOW) hb2) (unhide HML) hlt x0 x1 x2
      have pf := pf
      have H1 := hide p1
      have H2 := hide (Below.grown (below_tr (unhide HBE) hb2) p2 (below_tr (unhide HBE) hb2).size (fun k hk => by cases hk; exact Nat.le_refl _))
      clear p1 p2 hb2
      go_wp2_with fail
      go_roundw
      case rel => exact ⟨k + 1, by omega, by go_num, by rw [← unhide HMS]; exact unhide H1, unhide H2⟩
      case measure => simp [intOf]; omega
    · have hke : k = xs.length := by omega
      subst hke
      rw [madeS_all] at hown
      have H1 := hide hown
      have HB := hide hbel
      clear hown hbel
      go_wp2_with fail
      go_ret
      exact ⟨rfl, ⟨unhide HF, unhide H1⟩, unhide HB⟩

end Go.Proofs.Ytmlbphmbffkdnaa
