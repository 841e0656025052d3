/-
  Two who keep heads meet: the first two that fork.
-/
import Derived.Test.YtdpkdcdieajkbaaWato
import Derived.Test.YtdpkdcdieajkbaaHedd
namespace Go.Proofs.Ytdpkdcdieajkbaa
open Go.RowKit
set_option linter.unusedVariables false
set_option maxRecDepth 100000

/-- the first of some heads that forks with one -/
def meetIn (x : Tm.Hed) : List Tm.Hed → Option (Tm.Hed × Tm.Hed)
  | [] => none
  | y :: t => if hedFork x.1 x.2.1 x.2.2 y.1 y.2.1 y.2.2 = true then some (x, y) else meetIn x t
def meetFrom : List Tm.Hed → List Tm.Hed → Option (Tm.Hed × Tm.Hed)
  | [], _ => none
  | x :: t, ys => match meetIn x ys with
    | some p => some p
    | none => meetFrom t ys
def meet (xs ys : List Tm.Hed) : Option (Tm.Hed × Tm.Hed) := if watOk xs = true ∧ watOk ys = true then meetFrom xs ys else none
/-- the two heads that are told -/
def metX (p : Option (Tm.Hed × Tm.Hed)) : Tm.Hed := (p.getD ((0, 0, 0), (0, 0, 0))).1
def metY (p : Option (Tm.Hed × Tm.Hed)) : Tm.Hed := (p.getD ((0, 0, 0), (0, 0, 0))).2
abbrev hedW (h : Tm.Hed) : Value := hedV h.1 h.2.1 h.2.2
abbrev metV (p : Option (Tm.Hed × Tm.Hed)) : Value := .tuple #[hedW (metX p), hedW (metY p), .bool p.isSome]
theorem meet_no1 {xs ys : List Tm.Hed} (h : watOk xs = false) : meet xs ys = none := by unfold meet; rw [if_neg (by rw [h]; simp)]
theorem meet_no2 {xs ys : List Tm.Hed} (h : watOk ys = false) : meet xs ys = none := by unfold meet; rw [if_neg (by rw [h]; simp)]
theorem meet_yes {xs ys : List Tm.Hed} (h : watOk xs = true) (h2 : watOk ys = true) : meet xs ys = meetFrom xs ys := by unfold meet; rw [if_pos ⟨h, h2⟩]
theorem meetIn_hit {a b c a' b' c' : Int} {t : List Tm.Hed} (h : hedFork a b c a' b' c' = true) : meetIn (a, b, c) ((a', b', c') :: t) = some ((a, b, c), (a', b', c')) := by unfold meetIn; rw [if_pos h]
theorem meetIn_on {a b c a' b' c' : Int} {t : List Tm.Hed} (h : hedFork a b c a' b' c' = false) : meetIn (a, b, c) ((a', b', c') :: t) = meetIn (a, b, c) t := by rw [meetIn, if_neg (by rw [h]; simp)]
theorem meet_hit {x : Tm.Hed} {t ys : List Tm.Hed} {p : Tm.Hed × Tm.Hed} (h : meetIn x ys = some p) : meetFrom (x :: t) ys = some p := by unfold meetFrom; rw [h]
theorem meet_on {x : Tm.Hed} {t ys : List Tm.Hed} (h : meetIn x ys = none) : meetFrom (x :: t) ys = meetFrom t ys := by rw [meetFrom, h]
theorem below_s6 {A W : World} {g g' : Nat} {a b c d e f : Value} (h : Below A.heap.size A W) (hg : A.heap.size ≤ g) (hg' : A.heap.size ≤ g') : Below A.heap.size A ((((((W.setCell ⟨g, 0, none⟩ a).setCell ⟨g, 1, none⟩ b).setCell ⟨g, 2, none⟩ c).setCell ⟨g', 0, none⟩ d).setCell ⟨g', 1, none⟩ e).setCell ⟨g', 2, none⟩ f) := below_s3 (below_s3 h hg) hg'

theorem results_cct {fn : Func} {c d e : Tmp} {t u : TypeId} (h : fn.results = #[.cell c t, .cell d u, .tmp e]) {tmps : Array Value} {P : Program} {w : World} {a a' : Addr} {v v' : Value} (ha : tmps.getD c undef = .pointer (some a)) (ha2 : tmps.getD d undef = .pointer (some a')) (hl : (Go.loadVar t a).run P w = .ok v w) (hl2 : (Go.loadVar u a').run P w = .ok v' w) :
    (results fn tmps).run P w = .ok (.tuple #[v, v', tmps.getD e undef]) w := by
  have ha' : tmps[c]?.getD undef = .pointer (some a) := by simpa using ha
  have ha2' : tmps[d]?.getD undef = .pointer (some a') := by simpa using ha2
  simp [results, h, asAddr, ha', ha2', hl, hl2]
theorem load_hed {W : World} {g : Nat} {a b c : Int} (h : Box W g [.int .i64 a, .int .i64 b, .int .i64 c]) : (Go.loadVar 38 ⟨g, 0, none⟩).run Try.prog W = .ok (hedV a b c) W := by
  have c0 := h.cell 0 rfl
  have c1 := h.cell 1 rfl
  have c2 := h.cell 2 rfl
  simp [go_sem, c0, c1, c2]
theorem met_put {A W : World} {g g' : Nat} {us us' : List Value} {a b c d e f : Value} (hz : Box W g us) (hy : Box W g' us') (hl : us.length = 3) (hl2 : us'.length = 3) (hb : Below A.heap.size A W) (h1 : A.heap.size ≤ g) (h2 : A.heap.size ≤ g') (hne : g ≠ g') :
    let V := ((((((W.setCell ⟨g, 0, none⟩ a).setCell ⟨g, 1, none⟩ b).setCell ⟨g, 2, none⟩ c).setCell ⟨g', 0, none⟩ d).setCell ⟨g', 1, none⟩ e).setCell ⟨g', 2, none⟩ f).drew
    Box V g [a, b, c] ∧ Box V g' [d, e, f] ∧ Below A.heap.size A V :=
  ⟨((hz.store [a, b, c] (by simpa using hl)).other hne [d, e, f]).drew, ((hy.other (Ne.symm hne) [a, b, c]).store [d, e, f] (by simpa using hl2)).drew, below_then (below_s6 hb h1 h2) (below_drew _)⟩

set_option maxHeartbeats 8000000 in
theorem c55 (xs ys : List Tm.Hed) (ao bo : Option Addr) (n cap m cap' : Nat) (w : World) (hn : xs.length = n) (hm : n ≤ 1048576) (hn2 : ys.length = m) (hm2 : m ≤ 1048576) (hr : WRow w ao xs) (hr2 : WRow w bo ys) :
    Calls Try.prog 55 #[.slice ao n cap, .slice bo m cap'] w fun e w' => e = .returned (metV (meet xs ys)) ∧ Below w.heap.size w w' := by
  subst hn
  subst hn2
  have HA := hide (hr.bel (below_a (.cells #[.int .i64 0, .int .i64 0, .int .i64 0] 38)))
  replace HA := hide ((unhide HA).bel (below_a (.cells #[.int .i64 0, .int .i64 0, .int .i64 0] 38)))
  have HC := hide (hr2.bel (below_a (.cells #[.int .i64 0, .int .i64 0, .int .i64 0] 38)))
  replace HC := hide ((unhide HC).bel (below_a (.cells #[.int .i64 0, .int .i64 0, .int .i64 0] 38)))
  have HR := hide hr.2
  have HR2 := hide hr2.2
  clear hr hr2
  have HZ := hide ((box_new w [.int .i64 0, .int .i64 0, .int .i64 0] 38 (by simp [Value.oneCell'])).alloc (.cells #[.int .i64 0, .int .i64 0, .int .i64 0] 38))
  have HY0 := box_new (w.alloc (.cells #[.int .i64 0, .int .i64 0, .int .i64 0] 38)) [.int .i64 0, .int .i64 0, .int .i64 0] 38 (by simp [Value.oneCell'])
  rw [show (w.alloc (.cells #[.int .i64 0, .int .i64 0, .int .i64 0] 38)).heap.size = w.heap.size + 1 by simp] at HY0
  have HY := hide HY0
  have HB := hide (below_al (o := .cells #[.int .i64 0, .int .i64 0, .int .i64 0] 38) (below_a (w := w) (.cells #[.int .i64 0, .int .i64 0, .int .i64 0] 38)))
  clear HY0
  rcases h1 : watOk xs with _ | _
  case false =>
    have HU := hide (meet_no1 (ys := ys) h1)
    have z0 := (unhide HZ).cell 0 rfl
    have z0f := (unhide HZ).frozen 0 rfl
    have z1 := (unhide HZ).cell 1 rfl
    have z1f := (unhide HZ).frozen 1 rfl
    have z2 := (unhide HZ).cell 2 rfl
    have z2f := (unhide HZ).frozen 2 rfl
    have y0 := (unhide HY).cell 0 rfl
    have y0f := (unhide HY).frozen 0 rfl
    have y1 := (unhide HY).cell 1 rfl
    have y1f := (unhide HY).frozen 1 rfl
    have y2 := (unhide HY).cell 2 rfl
    have y2f := (unhide HY).frozen 2 rfl
    go_enter Try.func55, Try.ntmps55
    go_wp2_with fail
    refine (c50 xs _ xs.length cap _ rfl (by omega) (unhide HA)).mono ?_
    rintro e w1 ⟨rfl, hb⟩
    rw [h1]
    (try clear z0 z0f z1 z1f z2 z2f y0 y0f y1 y1f y2 y2f)
    replace HB := hide (below_tr (unhide HB) hb)
    replace HZ := hide ((unhide HZ).bel hb)
    replace HY := hide ((unhide HY).bel hb)
    replace HA := hide ((unhide HA).bel hb)
    replace HC := hide ((unhide HC).bel hb)
    clear hb
    have z0 := (unhide HZ).cell 0 rfl
    have z0f := (unhide HZ).frozen 0 rfl
    have z1 := (unhide HZ).cell 1 rfl
    have z1f := (unhide HZ).frozen 1 rfl
    have z2 := (unhide HZ).cell 2 rfl
    have z2f := (unhide HZ).frozen 2 rfl
    have y0 := (unhide HY).cell 0 rfl
    have y0f := (unhide HY).frozen 0 rfl
    have y1 := (unhide HY).cell 1 rfl
    have y1f := (unhide HY).frozen 1 rfl
    have y2 := (unhide HY).cell 2 rfl
    have y2f := (unhide HY).frozen 2 rfl
    go_wp2_with fail
    rw [unhide HU]
    exact bodyPost_ret (v := metV ((none : Option (Tm.Hed × Tm.Hed)))) (by simp [results, Try.results55, go_sem, z0, z1, z2, y0, y1, y2, metX, metY]) rfl ⟨rfl, below_s6 (unhide HB) (Nat.le_refl _) (Nat.le_succ _)⟩
  rcases h2 : watOk ys with _ | _
  case false =>
    have HU := hide (meet_no2 (xs := xs) h2)
    have z0 := (unhide HZ).cell 0 rfl
    have z0f := (unhide HZ).frozen 0 rfl
    have z1 := (unhide HZ).cell 1 rfl
    have z1f := (unhide HZ).frozen 1 rfl
    have z2 := (unhide HZ).cell 2 rfl
    have z2f := (unhide HZ).frozen 2 rfl
    have y0 := (unhide HY).cell 0 rfl
    have y0f := (unhide HY).frozen 0 rfl
    have y1 := (unhide HY).cell 1 rfl
    have y1f := (unhide HY).frozen 1 rfl
    have y2 := (unhide HY).cell 2 rfl
    have y2f := (unhide HY).frozen 2 rfl
    go_enter Try.func55, Try.ntmps55
    go_wp2_with fail
    refine (c50 xs _ xs.length cap _ rfl (by omega) (unhide HA)).mono ?_
    rintro e w1 ⟨rfl, hb⟩
    rw [h1]
    (try clear z0 z0f z1 z1f z2 z2f y0 y0f y1 y1f y2 y2f)
    replace HB := hide (below_tr (unhide HB) hb)
    replace HZ := hide ((unhide HZ).bel hb)
    replace HY := hide ((unhide HY).bel hb)
    replace HA := hide ((unhide HA).bel hb)
    replace HC := hide ((unhide HC).bel hb)
    clear hb
    have z0 := (unhide HZ).cell 0 rfl
    have z0f := (unhide HZ).frozen 0 rfl
    have z1 := (unhide HZ).cell 1 rfl
    have z1f := (unhide HZ).frozen 1 rfl
    have z2 := (unhide HZ).cell 2 rfl
    have z2f := (unhide HZ).frozen 2 rfl
    have y0 := (unhide HY).cell 0 rfl
    have y0f := (unhide HY).frozen 0 rfl
    have y1 := (unhide HY).cell 1 rfl
    have y1f := (unhide HY).frozen 1 rfl
    have y2 := (unhide HY).cell 2 rfl
    have y2f := (unhide HY).frozen 2 rfl
    go_wp2_with fail
    refine (c50 ys _ ys.length cap' _ rfl (by omega) (unhide HC)).mono ?_
    rintro e w2 ⟨rfl, hb⟩
    rw [h2]
    (try clear z0 z0f z1 z1f z2 z2f y0 y0f y1 y1f y2 y2f)
    replace HB := hide (below_tr (unhide HB) hb)
    replace HZ := hide ((unhide HZ).bel hb)
    replace HY := hide ((unhide HY).bel hb)
    replace HA := hide ((unhide HA).bel hb)
    replace HC := hide ((unhide HC).bel hb)
    clear hb
    have z0 := (unhide HZ).cell 0 rfl
    have z0f := (unhide HZ).frozen 0 rfl
    have z1 := (unhide HZ).cell 1 rfl
    have z1f := (unhide HZ).frozen 1 rfl
    have z2 := (unhide HZ).cell 2 rfl
    have z2f := (unhide HZ).frozen 2 rfl
    have y0 := (unhide HY).cell 0 rfl
    have y0f := (unhide HY).frozen 0 rfl
    have y1 := (unhide HY).cell 1 rfl
    have y1f := (unhide HY).frozen 1 rfl
    have y2 := (unhide HY).cell 2 rfl
    have y2f := (unhide HY).frozen 2 rfl
    go_wp2_with fail
    rw [unhide HU]
    exact bodyPost_ret (v := metV ((none : Option (Tm.Hed × Tm.Hed)))) (by simp [results, Try.results55, go_sem, z0, z1, z2, y0, y1, y2, metX, metY]) rfl ⟨rfl, below_s6 (unhide HB) (Nat.le_refl _) (Nat.le_succ _)⟩
  have HU := hide (meet_yes h1 h2)
  have z0 := (unhide HZ).cell 0 rfl
  have z0f := (unhide HZ).frozen 0 rfl
  have z1 := (unhide HZ).cell 1 rfl
  have z1f := (unhide HZ).frozen 1 rfl
  have z2 := (unhide HZ).cell 2 rfl
  have z2f := (unhide HZ).frozen 2 rfl
  have y0 := (unhide HY).cell 0 rfl
  have y0f := (unhide HY).frozen 0 rfl
  have y1 := (unhide HY).cell 1 rfl
  have y1f := (unhide HY).frozen 1 rfl
  have y2 := (unhide HY).cell 2 rfl
  have y2f := (unhide HY).frozen 2 rfl
  go_enter Try.func55, Try.ntmps55
  go_wp2_with fail
  refine (c50 xs _ xs.length cap _ rfl (by omega) (unhide HA)).mono ?_
  rintro e w1 ⟨rfl, hb⟩
  rw [h1]
  (try clear z0 z0f z1 z1f z2 z2f y0 y0f y1 y1f y2 y2f)
  replace HB := hide (below_tr (unhide HB) hb)
  replace HZ := hide ((unhide HZ).bel hb)
  replace HY := hide ((unhide HY).bel hb)
  replace HA := hide ((unhide HA).bel hb)
  replace HC := hide ((unhide HC).bel hb)
  clear hb
  have z0 := (unhide HZ).cell 0 rfl
  have z0f := (unhide HZ).frozen 0 rfl
  have z1 := (unhide HZ).cell 1 rfl
  have z1f := (unhide HZ).frozen 1 rfl
  have z2 := (unhide HZ).cell 2 rfl
  have z2f := (unhide HZ).frozen 2 rfl
  have y0 := (unhide HY).cell 0 rfl
  have y0f := (unhide HY).frozen 0 rfl
  have y1 := (unhide HY).cell 1 rfl
  have y1f := (unhide HY).frozen 1 rfl
  have y2 := (unhide HY).cell 2 rfl
  have y2f := (unhide HY).frozen 2 rfl
  go_wp2_with fail
  refine (c50 ys _ ys.length cap' _ rfl (by omega) (unhide HC)).mono ?_
  rintro e w2 ⟨rfl, hb⟩
  rw [h2]
  (try clear z0 z0f z1 z1f z2 z2f y0 y0f y1 y1f y2 y2f)
  replace HB := hide (below_tr (unhide HB) hb)
  replace HZ := hide ((unhide HZ).bel hb)
  replace HY := hide ((unhide HY).bel hb)
  clear HA HC
  clear hb
  have z0 := (unhide HZ).cell 0 rfl
  have z0f := (unhide HZ).frozen 0 rfl
  have z1 := (unhide HZ).cell 1 rfl
  have z1f := (unhide HZ).frozen 1 rfl
  have z2 := (unhide HZ).cell 2 rfl
  have z2f := (unhide HZ).frozen 2 rfl
  have y0 := (unhide HY).cell 0 rfl
  have y0f := (unhide HY).frozen 0 rfl
  have y1 := (unhide HY).cell 1 rfl
  have y1f := (unhide HY).frozen 1 rfl
  have y2 := (unhide HY).cell 2 rfl
  have y2f := (unhide HY).frozen 2 rfl
  go_wp2_with fail
  (try clear z0 z0f z1 z1f z2 z2f y0 y0f y1 y1f y2 y2f)
  go_loopw [23] (fun i wr => ∃ k : Nat, k ≤ xs.length ∧ i = .int .i64 k ∧ meetFrom xs ys = meetFrom (xs.drop k) ys ∧ Box wr w.heap.size [.int .i64 0, .int .i64 0, .int .i64 0] ∧ Box wr (w.heap.size + 1) [.int .i64 0, .int .i64 0, .int .i64 0] ∧ Below w.heap.size w wr) (fun i _ => xs.length - (intOf i).toNat)
  case atStart => exact ⟨0, Nat.zero_le _, rfl, rfl, unhide HZ, unhide HY, unhide HB⟩
  case round =>
    obtain ⟨k, hk, rfl, hw, hz, hy, hbel⟩ := hrel
    obtain ⟨WA, hWA⟩ : ∃ x, x = wr := ⟨_, rfl⟩
    subst hWA
    clear HZ HY HB
    have HZ := hide hz
    have HY := hide hy
    have HB := hide hbel
    clear hz hy
    have hb0 := (unhide HY).lt
    by_cases hlt : k < xs.length
    case neg =>
      obtain rfl : k = xs.length := by omega
      rw [List.drop_length] at hw
      have HV : Hid (meet xs ys = none) := (unhide HU).trans hw
      clear hw hbel
      have z0 := (unhide HZ).cell 0 rfl
      have z0f := (unhide HZ).frozen 0 rfl
      have z1 := (unhide HZ).cell 1 rfl
      have z1f := (unhide HZ).frozen 1 rfl
      have z2 := (unhide HZ).cell 2 rfl
      have z2f := (unhide HZ).frozen 2 rfl
      have y0 := (unhide HY).cell 0 rfl
      have y0f := (unhide HY).frozen 0 rfl
      have y1 := (unhide HY).cell 1 rfl
      have y1f := (unhide HY).frozen 1 rfl
      have y2 := (unhide HY).cell 2 rfl
      have y2f := (unhide HY).frozen 2 rfl
      go_wp2_with fail
      rw [unhide HV]
      exact bodyPost_ret (v := metV ((none : Option (Tm.Hed × Tm.Hed)))) (by simp [results, Try.results55, go_sem, z0, z1, z2, y0, y1, y2, metX, metY]) rfl ⟨rfl, below_s6 (unhide HB) (Nat.le_refl _) (Nat.le_succ _)⟩
    obtain ⟨b, off, rfl, hc⟩ := unhide HR (by intro e; subst e; simp at hlt)
    obtain ⟨⟨x0, x1, x2⟩, hx⟩ := atW hlt
    obtain ⟨g0, g1, g2⟩ := w_cells hbel hc hx
    rw [wat_drop hx] at hw
    have e0 : (0 : Int) ≤ (k : Int) := by omega
    have e1 : (k : Int) < (xs.length : Int) := by omega
    have HX := hide (box_new WA [.int .i64 x0, .int .i64 x1, .int .i64 x2] 38 (by simp [Value.oneCell']))
    have HW := hide hw
    clear hw hbel hc hx
    replace HB := hide (below_al (o := .cells #[.int .i64 x0, .int .i64 x1, .int .i64 x2] 38) (unhide HB))
    replace HZ := hide ((unhide HZ).bel (below_a (.cells #[.int .i64 x0, .int .i64 x1, .int .i64 x2] 38)))
    replace HY := hide ((unhide HY).bel (below_a (.cells #[.int .i64 x0, .int .i64 x1, .int .i64 x2] 38)))
    go_wp2_with fail
    clear g0 g1 g2
    go_loopw [29] (fun i wr2 => ∃ k2 : Nat, k2 ≤ ys.length ∧ i = .int .i64 k2 ∧ meetIn (x0, x1, x2) ys = meetIn (x0, x1, x2) (ys.drop k2) ∧ Box wr2 w.heap.size [.int .i64 0, .int .i64 0, .int .i64 0] ∧ Box wr2 (w.heap.size + 1) [.int .i64 0, .int .i64 0, .int .i64 0] ∧ Box wr2 WA.heap.size [.int .i64 x0, .int .i64 x1, .int .i64 x2] ∧ Below w.heap.size w wr2) (fun i _ => ys.length - (intOf i).toNat)
    case atStart => exact ⟨0, Nat.zero_le _, rfl, rfl, unhide HZ, unhide HY, unhide HX, unhide HB⟩
    case round =>
      obtain ⟨k2, hk2, rfl, hw2, hz, hy, hxb, hbel⟩ := hrel
      obtain ⟨WB, hWB⟩ : ∃ x, x = wr := ⟨_, rfl⟩
      subst hWB
      clear HZ HY HX HB
      have HZ := hide hz
      have HY := hide hy
      have HX := hide hxb
      have HB := hide hbel
      clear hz hy hxb
      have hb1 := (unhide HX).lt
      by_cases hlt2 : k2 < ys.length
      case neg =>
        obtain rfl : k2 = ys.length := by omega
        rw [List.drop_length] at hw2
        have HW2 := hide ((unhide HW).trans (meet_on hw2))
        clear hw2 hbel HW
        have z0 := (unhide HZ).cell 0 rfl
        have z0f := (unhide HZ).frozen 0 rfl
        have z1 := (unhide HZ).cell 1 rfl
        have z1f := (unhide HZ).frozen 1 rfl
        have z2 := (unhide HZ).cell 2 rfl
        have z2f := (unhide HZ).frozen 2 rfl
        have y0 := (unhide HY).cell 0 rfl
        have y0f := (unhide HY).frozen 0 rfl
        have y1 := (unhide HY).cell 1 rfl
        have y1f := (unhide HY).frozen 1 rfl
        have y2 := (unhide HY).cell 2 rfl
        have y2f := (unhide HY).frozen 2 rfl
        have q0 := (unhide HX).cell 0 rfl
        have q1 := (unhide HX).cell 1 rfl
        have q2 := (unhide HX).cell 2 rfl
        go_wp2_with fail
        (try clear z0 z0f z1 z1f z2 z2f y0 y0f y1 y1f y2 y2f q0 q1 q2)
        go_roundw
        case rel => exact ⟨k + 1, by omega, by go_num, unhide HW2, unhide HZ, unhide HY, unhide HB⟩
        case measure => simp [intOf]; omega
      obtain ⟨b', off', rfl, hc'⟩ := unhide HR2 (by intro e; subst e; simp at hlt2)
      obtain ⟨⟨y0', y1', y2'⟩, hyy⟩ := atW hlt2
      obtain ⟨h0, h1', h2'⟩ := w_cells hbel hc' hyy
      rw [wat_drop hyy] at hw2
      have e2 : (0 : Int) ≤ (k2 : Int) := by omega
      have e3 : (k2 : Int) < (ys.length : Int) := by omega
      have HQ := hide (box_new WB [.int .i64 y0', .int .i64 y1', .int .i64 y2'] 38 (by simp [Value.oneCell']))
      clear hbel hc' hyy
      replace HB := hide (below_al (o := .cells #[.int .i64 y0', .int .i64 y1', .int .i64 y2'] 38) (unhide HB))
      replace HZ := hide ((unhide HZ).bel (below_a (.cells #[.int .i64 y0', .int .i64 y1', .int .i64 y2'] 38)))
      replace HY := hide ((unhide HY).bel (below_a (.cells #[.int .i64 y0', .int .i64 y1', .int .i64 y2'] 38)))
      replace HX := hide ((unhide HX).bel (below_a (.cells #[.int .i64 y0', .int .i64 y1', .int .i64 y2'] 38)))
      rcases hf : hedFork x0 x1 x2 y0' y1' y2' with _ | _
      case false =>
        have HW2 := hide (hw2.trans (meetIn_on hf))
        clear hw2
        have z0 := (unhide HZ).cell 0 rfl
        have z0f := (unhide HZ).frozen 0 rfl
        have z1 := (unhide HZ).cell 1 rfl
        have z1f := (unhide HZ).frozen 1 rfl
        have z2 := (unhide HZ).cell 2 rfl
        have z2f := (unhide HZ).frozen 2 rfl
        have y0 := (unhide HY).cell 0 rfl
        have y0f := (unhide HY).frozen 0 rfl
        have y1 := (unhide HY).cell 1 rfl
        have y1f := (unhide HY).frozen 1 rfl
        have y2 := (unhide HY).cell 2 rfl
        have y2f := (unhide HY).frozen 2 rfl
        have q0 := (unhide HX).cell 0 rfl
        have q1 := (unhide HX).cell 1 rfl
        have q2 := (unhide HX).cell 2 rfl
        have p0 := (unhide HQ).cell 0 rfl
        have p1 := (unhide HQ).cell 1 rfl
        have p2 := (unhide HQ).cell 2 rfl
        go_wp2_with fail
        clear h0 h1' h2'
        refine (c53 x0 x1 x2 y0' y1' y2' _).mono ?_
        rintro e w3 ⟨rfl, hb⟩
        rw [hf]
        (try clear z0 z0f z1 z1f z2 z2f y0 y0f y1 y1f y2 y2f q0 q1 q2 p0 p1 p2)
        replace HB := hide (below_tr (unhide HB) hb)
        replace HZ := hide ((unhide HZ).bel hb)
        replace HY := hide ((unhide HY).bel hb)
        replace HX := hide ((unhide HX).bel hb)
        replace HQ := hide ((unhide HQ).bel hb)
        clear hb
        have z0 := (unhide HZ).cell 0 rfl
        have z0f := (unhide HZ).frozen 0 rfl
        have z1 := (unhide HZ).cell 1 rfl
        have z1f := (unhide HZ).frozen 1 rfl
        have z2 := (unhide HZ).cell 2 rfl
        have z2f := (unhide HZ).frozen 2 rfl
        have y0 := (unhide HY).cell 0 rfl
        have y0f := (unhide HY).frozen 0 rfl
        have y1 := (unhide HY).cell 1 rfl
        have y1f := (unhide HY).frozen 1 rfl
        have y2 := (unhide HY).cell 2 rfl
        have y2f := (unhide HY).frozen 2 rfl
        have q0 := (unhide HX).cell 0 rfl
        have q1 := (unhide HX).cell 1 rfl
        have q2 := (unhide HX).cell 2 rfl
        have p0 := (unhide HQ).cell 0 rfl
        have p1 := (unhide HQ).cell 1 rfl
        have p2 := (unhide HQ).cell 2 rfl
        go_wp2_with fail
        (try clear z0 z0f z1 z1f z2 z2f y0 y0f y1 y1f y2 y2f q0 q1 q2 p0 p1 p2)
        go_roundw
        case rel => exact ⟨k2 + 1, by omega, by go_num, unhide HW2, unhide HZ, unhide HY, unhide HX, unhide HB⟩
        case measure => simp [intOf]; omega
      have HV : Hid (meet xs ys = some ((x0, x1, x2), (y0', y1', y2'))) := (unhide HU).trans ((unhide HW).trans (meet_hit (hw2.trans (meetIn_hit hf))))
      clear hw2 HW HU
      have z0 := (unhide HZ).cell 0 rfl
      have z0f := (unhide HZ).frozen 0 rfl
      have z1 := (unhide HZ).cell 1 rfl
      have z1f := (unhide HZ).frozen 1 rfl
      have z2 := (unhide HZ).cell 2 rfl
      have z2f := (unhide HZ).frozen 2 rfl
      have y0 := (unhide HY).cell 0 rfl
      have y0f := (unhide HY).frozen 0 rfl
      have y1 := (unhide HY).cell 1 rfl
      have y1f := (unhide HY).frozen 1 rfl
      have y2 := (unhide HY).cell 2 rfl
      have y2f := (unhide HY).frozen 2 rfl
      have q0 := (unhide HX).cell 0 rfl
      have q1 := (unhide HX).cell 1 rfl
      have q2 := (unhide HX).cell 2 rfl
      have p0 := (unhide HQ).cell 0 rfl
      have p1 := (unhide HQ).cell 1 rfl
      have p2 := (unhide HQ).cell 2 rfl
      go_wp2_with fail
      clear h0 h1' h2'
      refine (c53 x0 x1 x2 y0' y1' y2' _).mono ?_
      rintro e w3 ⟨rfl, hb⟩
      rw [hf]
      (try clear z0 z0f z1 z1f z2 z2f y0 y0f y1 y1f y2 y2f q0 q1 q2 p0 p1 p2)
      replace HB := hide (below_tr (unhide HB) hb)
      replace HZ := hide ((unhide HZ).bel hb)
      replace HY := hide ((unhide HY).bel hb)
      replace HX := hide ((unhide HX).bel hb)
      replace HQ := hide ((unhide HQ).bel hb)
      clear hb
      have z0 := (unhide HZ).cell 0 rfl
      have z0f := (unhide HZ).frozen 0 rfl
      have z1 := (unhide HZ).cell 1 rfl
      have z1f := (unhide HZ).frozen 1 rfl
      have z2 := (unhide HZ).cell 2 rfl
      have z2f := (unhide HZ).frozen 2 rfl
      have y0 := (unhide HY).cell 0 rfl
      have y0f := (unhide HY).frozen 0 rfl
      have y1 := (unhide HY).cell 1 rfl
      have y1f := (unhide HY).frozen 1 rfl
      have y2 := (unhide HY).cell 2 rfl
      have y2f := (unhide HY).frozen 2 rfl
      have q0 := (unhide HX).cell 0 rfl
      have q1 := (unhide HX).cell 1 rfl
      have q2 := (unhide HX).cell 2 rfl
      have p0 := (unhide HQ).cell 0 rfl
      have p1 := (unhide HQ).cell 1 rfl
      have p2 := (unhide HQ).cell 2 rfl
      go_wp2_with fail
      go_region
      all_goals (go_wp2_with fail)
      obtain ⟨b1, b2, b3⟩ := met_put (unhide HZ) (unhide HY) rfl rfl (unhide HB) (Nat.le_refl _) (Nat.le_succ _) (Nat.ne_of_lt (Nat.lt_succ_self _))
      rw [unhide HV]
      exact bodyPost_ret (v := metV (some ((x0, x1, x2), (y0', y1', y2')))) (results_cct Try.results55 rfl rfl (load_hed b1) (load_hed b2)) rfl ⟨rfl, b3⟩

set_option maxHeartbeats 8000000 in
theorem c56 (xs ys : List Tm.Hed) (ao bo : Option Addr) (n cap m cap' : Nat) (w : World) (hn : xs.length = n) (hm : n ≤ 1048576) (hn2 : ys.length = m) (hm2 : m ≤ 1048576) (hr : WRow w ao xs) (hr2 : WRow w bo ys) :
    Calls Try.prog 56 #[.slice ao n cap, .slice bo m cap'] w fun e w' => e = .returned (metV (meet xs ys)) ∧ Below w.heap.size w w' := by
  subst hn
  subst hn2
  have HR0 := hide hr
  have HR20 := hide hr2
  have HR := hide hr.2
  have HR2 := hide hr2.2
  clear hr hr2
  have HZ := hide ((box_new w [.int .i64 0, .int .i64 0, .int .i64 0] 38 (by simp [Value.oneCell'])).alloc (.cells #[.int .i64 0, .int .i64 0, .int .i64 0] 38))
  have HY0 := box_new (w.alloc (.cells #[.int .i64 0, .int .i64 0, .int .i64 0] 38)) [.int .i64 0, .int .i64 0, .int .i64 0] 38 (by simp [Value.oneCell'])
  rw [show (w.alloc (.cells #[.int .i64 0, .int .i64 0, .int .i64 0] 38)).heap.size = w.heap.size + 1 by simp] at HY0
  have HY := hide HY0
  have HB := hide (below_al (o := .cells #[.int .i64 0, .int .i64 0, .int .i64 0] 38) (below_a (w := w) (.cells #[.int .i64 0, .int .i64 0, .int .i64 0] 38)))
  clear HY0
  have z0 := (unhide HZ).cell 0 rfl
  have z0f := (unhide HZ).frozen 0 rfl
  have z1 := (unhide HZ).cell 1 rfl
  have z1f := (unhide HZ).frozen 1 rfl
  have z2 := (unhide HZ).cell 2 rfl
  have z2f := (unhide HZ).frozen 2 rfl
  have y0 := (unhide HY).cell 0 rfl
  have y0f := (unhide HY).frozen 0 rfl
  have y1 := (unhide HY).cell 1 rfl
  have y1f := (unhide HY).frozen 1 rfl
  have y2 := (unhide HY).cell 2 rfl
  have y2f := (unhide HY).frozen 2 rfl
  go_enter Try.func56, Try.ntmps56
  go_wp2_with fail
  (try clear z0 z0f z1 z1f z2 z2f y0 y0f y1 y1f y2 y2f)
  go_loopw [7] (fun i wr => ∃ k : Nat, k ≤ xs.length ∧ i = .int .i64 k ∧ meetFrom xs ys = meetFrom (xs.drop k) ys ∧ Box wr w.heap.size [.int .i64 0, .int .i64 0, .int .i64 0] ∧ Box wr (w.heap.size + 1) [.int .i64 0, .int .i64 0, .int .i64 0] ∧ Below w.heap.size w wr) (fun i _ => xs.length - (intOf i).toNat)
  case atStart => exact ⟨0, Nat.zero_le _, rfl, rfl, unhide HZ, unhide HY, unhide HB⟩
  case round =>
    obtain ⟨k, hk, rfl, hw, hz, hy, hbel⟩ := hrel
    obtain ⟨WA, hWA⟩ : ∃ x, x = wr := ⟨_, rfl⟩
    subst hWA
    clear HZ HY HB
    have HZ := hide hz
    have HY := hide hy
    have HB := hide hbel
    have hb0 := (unhide HY).lt
    have HA := hide ((unhide HR0).bel hbel)
    have HC := hide ((unhide HR20).bel hbel)
    clear hz hy
    by_cases hlt : k < xs.length
    case neg =>
      obtain rfl : k = xs.length := by omega
      rw [List.drop_length] at hw
      have HV : Hid (meet xs ys = none) := by
        rcases h1 : watOk xs with _ | _
        · exact meet_no1 h1
        rcases h2 : watOk ys with _ | _
        · exact meet_no2 h2
        exact (meet_yes h1 h2).trans hw
      clear hw hbel
      have z0 := (unhide HZ).cell 0 rfl
      have z0f := (unhide HZ).frozen 0 rfl
      have z1 := (unhide HZ).cell 1 rfl
      have z1f := (unhide HZ).frozen 1 rfl
      have z2 := (unhide HZ).cell 2 rfl
      have z2f := (unhide HZ).frozen 2 rfl
      have y0 := (unhide HY).cell 0 rfl
      have y0f := (unhide HY).frozen 0 rfl
      have y1 := (unhide HY).cell 1 rfl
      have y1f := (unhide HY).frozen 1 rfl
      have y2 := (unhide HY).cell 2 rfl
      have y2f := (unhide HY).frozen 2 rfl
      go_wp2_with fail
      rw [unhide HV]
      exact bodyPost_ret (v := metV ((none : Option (Tm.Hed × Tm.Hed)))) (by simp [results, Try.results56, go_sem, z0, z1, z2, y0, y1, y2, metX, metY]) rfl ⟨rfl, below_s6 (unhide HB) (Nat.le_refl _) (Nat.le_succ _)⟩
    have e0 : (0 : Int) ≤ (k : Int) := by omega
    have e1 : (k : Int) < (xs.length : Int) := by omega
    rcases h1 : watOk xs with _ | _
    case false =>
      have HU := hide (meet_no1 (ys := ys) h1)
      clear hw hbel
      have z0 := (unhide HZ).cell 0 rfl
      have z0f := (unhide HZ).frozen 0 rfl
      have z1 := (unhide HZ).cell 1 rfl
      have z1f := (unhide HZ).frozen 1 rfl
      have z2 := (unhide HZ).cell 2 rfl
      have z2f := (unhide HZ).frozen 2 rfl
      have y0 := (unhide HY).cell 0 rfl
      have y0f := (unhide HY).frozen 0 rfl
      have y1 := (unhide HY).cell 1 rfl
      have y1f := (unhide HY).frozen 1 rfl
      have y2 := (unhide HY).cell 2 rfl
      have y2f := (unhide HY).frozen 2 rfl
      go_wp2_with fail
      refine (c51 xs _ xs.length cap _ rfl (by omega) (unhide HA)).mono ?_
      rintro e w1 ⟨rfl, hb⟩
      rw [h1]
      (try clear z0 z0f z1 z1f z2 z2f y0 y0f y1 y1f y2 y2f)
      replace HB := hide (below_tr (unhide HB) hb)
      replace HZ := hide ((unhide HZ).bel hb)
      replace HY := hide ((unhide HY).bel hb)
      replace HA := hide ((unhide HA).bel hb)
      replace HC := hide ((unhide HC).bel hb)
      clear hb
      have z0 := (unhide HZ).cell 0 rfl
      have z0f := (unhide HZ).frozen 0 rfl
      have z1 := (unhide HZ).cell 1 rfl
      have z1f := (unhide HZ).frozen 1 rfl
      have z2 := (unhide HZ).cell 2 rfl
      have z2f := (unhide HZ).frozen 2 rfl
      have y0 := (unhide HY).cell 0 rfl
      have y0f := (unhide HY).frozen 0 rfl
      have y1 := (unhide HY).cell 1 rfl
      have y1f := (unhide HY).frozen 1 rfl
      have y2 := (unhide HY).cell 2 rfl
      have y2f := (unhide HY).frozen 2 rfl
      go_wp2_with fail
      rw [unhide HU]
      exact bodyPost_ret (v := metV ((none : Option (Tm.Hed × Tm.Hed)))) (by simp [results, Try.results56, go_sem, z0, z1, z2, y0, y1, y2, metX, metY]) rfl ⟨rfl, below_s6 (unhide HB) (Nat.le_refl _) (Nat.le_succ _)⟩
    rcases h2 : watOk ys with _ | _
    case false =>
      have HU := hide (meet_no2 (xs := xs) h2)
      clear hw hbel
      have z0 := (unhide HZ).cell 0 rfl
      have z0f := (unhide HZ).frozen 0 rfl
      have z1 := (unhide HZ).cell 1 rfl
      have z1f := (unhide HZ).frozen 1 rfl
      have z2 := (unhide HZ).cell 2 rfl
      have z2f := (unhide HZ).frozen 2 rfl
      have y0 := (unhide HY).cell 0 rfl
      have y0f := (unhide HY).frozen 0 rfl
      have y1 := (unhide HY).cell 1 rfl
      have y1f := (unhide HY).frozen 1 rfl
      have y2 := (unhide HY).cell 2 rfl
      have y2f := (unhide HY).frozen 2 rfl
      go_wp2_with fail
      refine (c51 xs _ xs.length cap _ rfl (by omega) (unhide HA)).mono ?_
      rintro e w1 ⟨rfl, hb⟩
      rw [h1]
      (try clear z0 z0f z1 z1f z2 z2f y0 y0f y1 y1f y2 y2f)
      replace HB := hide (below_tr (unhide HB) hb)
      replace HZ := hide ((unhide HZ).bel hb)
      replace HY := hide ((unhide HY).bel hb)
      replace HA := hide ((unhide HA).bel hb)
      replace HC := hide ((unhide HC).bel hb)
      clear hb
      have z0 := (unhide HZ).cell 0 rfl
      have z0f := (unhide HZ).frozen 0 rfl
      have z1 := (unhide HZ).cell 1 rfl
      have z1f := (unhide HZ).frozen 1 rfl
      have z2 := (unhide HZ).cell 2 rfl
      have z2f := (unhide HZ).frozen 2 rfl
      have y0 := (unhide HY).cell 0 rfl
      have y0f := (unhide HY).frozen 0 rfl
      have y1 := (unhide HY).cell 1 rfl
      have y1f := (unhide HY).frozen 1 rfl
      have y2 := (unhide HY).cell 2 rfl
      have y2f := (unhide HY).frozen 2 rfl
      go_wp2_with fail
      refine (c51 ys _ ys.length cap' _ rfl (by omega) (unhide HC)).mono ?_
      rintro e w2 ⟨rfl, hb⟩
      rw [h2]
      (try clear z0 z0f z1 z1f z2 z2f y0 y0f y1 y1f y2 y2f)
      replace HB := hide (below_tr (unhide HB) hb)
      replace HZ := hide ((unhide HZ).bel hb)
      replace HY := hide ((unhide HY).bel hb)
      replace HA := hide ((unhide HA).bel hb)
      replace HC := hide ((unhide HC).bel hb)
      clear hb
      have z0 := (unhide HZ).cell 0 rfl
      have z0f := (unhide HZ).frozen 0 rfl
      have z1 := (unhide HZ).cell 1 rfl
      have z1f := (unhide HZ).frozen 1 rfl
      have z2 := (unhide HZ).cell 2 rfl
      have z2f := (unhide HZ).frozen 2 rfl
      have y0 := (unhide HY).cell 0 rfl
      have y0f := (unhide HY).frozen 0 rfl
      have y1 := (unhide HY).cell 1 rfl
      have y1f := (unhide HY).frozen 1 rfl
      have y2 := (unhide HY).cell 2 rfl
      have y2f := (unhide HY).frozen 2 rfl
      go_wp2_with fail
      rw [unhide HU]
      exact bodyPost_ret (v := metV ((none : Option (Tm.Hed × Tm.Hed)))) (by simp [results, Try.results56, go_sem, z0, z1, z2, y0, y1, y2, metX, metY]) rfl ⟨rfl, below_s6 (unhide HB) (Nat.le_refl _) (Nat.le_succ _)⟩
    have HU := hide (meet_yes h1 h2)
    obtain ⟨b, off, rfl, hc⟩ := unhide HR (by intro e; subst e; simp at hlt)
    obtain ⟨⟨x0, x1, x2⟩, hx⟩ := atW hlt
    obtain ⟨g0, g1, g2⟩ := w_cells (Below.refl _ _) hc hx
    have hbb : b < w.heap.size := World.block_lt_of_cell? w _ g0
    have HC0 := hide g0
    have HC1 := hide g1
    have HC2 := hide g2
    rw [wat_drop hx] at hw
    have HW := hide hw
    clear hw hbel hc hx g0 g1 g2
    have z0 := (unhide HZ).cell 0 rfl
    have z0f := (unhide HZ).frozen 0 rfl
    have z1 := (unhide HZ).cell 1 rfl
    have z1f := (unhide HZ).frozen 1 rfl
    have z2 := (unhide HZ).cell 2 rfl
    have z2f := (unhide HZ).frozen 2 rfl
    have y0 := (unhide HY).cell 0 rfl
    have y0f := (unhide HY).frozen 0 rfl
    have y1 := (unhide HY).cell 1 rfl
    have y1f := (unhide HY).frozen 1 rfl
    have y2 := (unhide HY).cell 2 rfl
    have y2f := (unhide HY).frozen 2 rfl
    go_wp2_with fail
    refine (c51 xs _ xs.length cap _ rfl (by omega) (unhide HA)).mono ?_
    rintro e w1 ⟨rfl, hb⟩
    rw [h1]
    (try clear z0 z0f z1 z1f z2 z2f y0 y0f y1 y1f y2 y2f)
    replace HB := hide (below_tr (unhide HB) hb)
    replace HZ := hide ((unhide HZ).bel hb)
    replace HY := hide ((unhide HY).bel hb)
    replace HA := hide ((unhide HA).bel hb)
    replace HC := hide ((unhide HC).bel hb)
    clear hb
    have z0 := (unhide HZ).cell 0 rfl
    have z0f := (unhide HZ).frozen 0 rfl
    have z1 := (unhide HZ).cell 1 rfl
    have z1f := (unhide HZ).frozen 1 rfl
    have z2 := (unhide HZ).cell 2 rfl
    have z2f := (unhide HZ).frozen 2 rfl
    have y0 := (unhide HY).cell 0 rfl
    have y0f := (unhide HY).frozen 0 rfl
    have y1 := (unhide HY).cell 1 rfl
    have y1f := (unhide HY).frozen 1 rfl
    have y2 := (unhide HY).cell 2 rfl
    have y2f := (unhide HY).frozen 2 rfl
    go_wp2_with fail
    refine (c51 ys _ ys.length cap' _ rfl (by omega) (unhide HC)).mono ?_
    rintro e w2 ⟨rfl, hb⟩
    rw [h2]
    (try clear z0 z0f z1 z1f z2 z2f y0 y0f y1 y1f y2 y2f)
    replace HB := hide (below_tr (unhide HB) hb)
    replace HZ := hide ((unhide HZ).bel hb)
    replace HY := hide ((unhide HY).bel hb)
    clear HA HC
    clear hb
    have z0 := (unhide HZ).cell 0 rfl
    have z0f := (unhide HZ).frozen 0 rfl
    have z1 := (unhide HZ).cell 1 rfl
    have z1f := (unhide HZ).frozen 1 rfl
    have z2 := (unhide HZ).cell 2 rfl
    have z2f := (unhide HZ).frozen 2 rfl
    have y0 := (unhide HY).cell 0 rfl
    have y0f := (unhide HY).frozen 0 rfl
    have y1 := (unhide HY).cell 1 rfl
    have y1f := (unhide HY).frozen 1 rfl
    have y2 := (unhide HY).cell 2 rfl
    have y2f := (unhide HY).frozen 2 rfl
    go_wp2_with fail
    (try clear z0 z0f z1 z1f z2 z2f y0 y0f y1 y1f y2 y2f)
    go_loopw [8] (fun i wr2 => ∃ k2 : Nat, k2 ≤ ys.length ∧ i = .int .i64 k2 ∧ meetIn (x0, x1, x2) ys = meetIn (x0, x1, x2) (ys.drop k2) ∧ Box wr2 w.heap.size [.int .i64 0, .int .i64 0, .int .i64 0] ∧ Box wr2 (w.heap.size + 1) [.int .i64 0, .int .i64 0, .int .i64 0] ∧ Below w.heap.size w wr2) (fun i _ => ys.length - (intOf i).toNat)
    case atStart => exact ⟨0, Nat.zero_le _, rfl, rfl, unhide HZ, unhide HY, unhide HB⟩
    case round =>
      obtain ⟨k2, hk2, rfl, hw2, hz, hy, hbel⟩ := hrel
      obtain ⟨WB, hWB⟩ : ∃ x, x = wr := ⟨_, rfl⟩
      subst hWB
      clear HZ HY HB
      have HZ := hide hz
      have HY := hide hy
      have HB := hide hbel
      clear hz hy
      by_cases hlt2 : k2 < ys.length
      case neg =>
        obtain rfl : k2 = ys.length := by omega
        rw [List.drop_length] at hw2
        have HW2 := hide ((unhide HW).trans (meet_on hw2))
        clear hw2 hbel HW
        have z0 := (unhide HZ).cell 0 rfl
        have z0f := (unhide HZ).frozen 0 rfl
        have z1 := (unhide HZ).cell 1 rfl
        have z1f := (unhide HZ).frozen 1 rfl
        have z2 := (unhide HZ).cell 2 rfl
        have z2f := (unhide HZ).frozen 2 rfl
        have y0 := (unhide HY).cell 0 rfl
        have y0f := (unhide HY).frozen 0 rfl
        have y1 := (unhide HY).cell 1 rfl
        have y1f := (unhide HY).frozen 1 rfl
        have y2 := (unhide HY).cell 2 rfl
        have y2f := (unhide HY).frozen 2 rfl
        go_wp2_with fail
        (try clear z0 z0f z1 z1f z2 z2f y0 y0f y1 y1f y2 y2f)
        go_roundw
        case rel => exact ⟨k + 1, by omega, by go_num, unhide HW2, unhide HZ, unhide HY, unhide HB⟩
        case measure => simp [intOf]; omega
      obtain ⟨b', off', rfl, hc'⟩ := unhide HR2 (by intro e; subst e; simp at hlt2)
      obtain ⟨⟨y0', y1', y2'⟩, hyy⟩ := atW hlt2
      obtain ⟨h0, h1', h2'⟩ := w_cells (Below.refl _ _) hc' hyy
      have hbb' : b' < w.heap.size := World.block_lt_of_cell? w _ h0
      have HD0 := hide h0
      have HD1 := hide h1'
      have HD2 := hide h2'
      rw [wat_drop hyy] at hw2
      have e2 : (0 : Int) ≤ (k2 : Int) := by omega
      have e3 : (k2 : Int) < (ys.length : Int) := by omega
      clear hbel hc' hyy h0 h1' h2'
      rcases hf : hedFork x0 x1 x2 y0' y1' y2' with _ | _
      case false =>
        have HW2 := hide (hw2.trans (meetIn_on hf))
        clear hw2
        have z0 := (unhide HZ).cell 0 rfl
        have z0f := (unhide HZ).frozen 0 rfl
        have z1 := (unhide HZ).cell 1 rfl
        have z1f := (unhide HZ).frozen 1 rfl
        have z2 := (unhide HZ).cell 2 rfl
        have z2f := (unhide HZ).frozen 2 rfl
        have y0 := (unhide HY).cell 0 rfl
        have y0f := (unhide HY).frozen 0 rfl
        have y1 := (unhide HY).cell 1 rfl
        have y1f := (unhide HY).frozen 1 rfl
        have y2 := (unhide HY).cell 2 rfl
        have y2f := (unhide HY).frozen 2 rfl
        go_wp2_with fail
        (try clear z0 z0f z1 z1f z2 z2f y0 y0f y1 y1f y2 y2f)
        (try clear z0 z0f z1 z1f z2 z2f y0 y0f y1 y1f y2 y2f)
        refine wp_region_held_drew (S := fun w' => Below WB.heap.size WB w') (by kernel_rfl) (below_drew WB) (fun hHeld => ?_)
        refine wpAnyH_take (i := 0) (oi := { dst := some 29, op := _, type := _, pos := _, after := _, guard := _ }) (v := ?_) rfl (by kernel_rfl) (by kernel_rfl) (by kernel_rfl) (fun _ _ _ h => h) (Or.inl ⟨by rfl, ?_⟩) (by assumption) ?_
        rotate_left
        · intro w hSw
          first | (go_simp; done) | (go_simp; with_reducible rfl) | with_reducible rfl | rfl
        try simp only [Act.put, List.setIfInBounds_toArray, List.set_cons_zero, List.set_cons_succ]
        refine wpAnyH_take (i := 1) (oi := { dst := some 30, op := _, type := _, pos := _, after := _, guard := _ }) (v := ?_) rfl (by kernel_rfl) (by kernel_rfl) (by kernel_rfl) (fun _ _ _ h => h) (Or.inl ⟨by rfl, ?_⟩) (by assumption) ?_
        rotate_left
        · intro w hSw
          first | (go_simp; done) | (go_simp; with_reducible rfl) | with_reducible rfl | rfl
        try simp only [Act.put, List.setIfInBounds_toArray, List.set_cons_zero, List.set_cons_succ]
        refine wpAnyH_take (i := 2) (oi := { dst := some 31, op := _, type := _, pos := _, after := _, guard := _ }) (v := ?_) rfl (by kernel_rfl) (by kernel_rfl) (by kernel_rfl) (fun _ _ _ h => h) (Or.inl ⟨by rfl, ?_⟩) (by assumption) ?_
        rotate_left
        · intro w hSw
          have hT := (unhide HZ).below hSw; have z0 := hT.cell 0 rfl; have z1 := hT.cell 1 rfl; have z2 := hT.cell 2 rfl; clear hT; have hT := (unhide HY).below hSw; have y0 := hT.cell 0 rfl; have y1 := hT.cell 1 rfl; have y2 := hT.cell 2 rfl; clear hT; have hSB := below_tr (unhide HB) hSw; have g0 := cell_bl hSB (unhide HC0); have g1 := cell_bl hSB (unhide HC1); have g2 := cell_bl hSB (unhide HC2); have h0 := cell_bl hSB (unhide HD0); have h1' := cell_bl hSB (unhide HD1); have h2' := cell_bl hSB (unhide HD2); clear hSB
          first | (go_simp; done) | (go_simp; with_reducible rfl) | with_reducible rfl | rfl
        try simp only [Act.put, List.setIfInBounds_toArray, List.set_cons_zero, List.set_cons_succ]
        refine wpAnyH_take (i := 3) (oi := { dst := some 32, op := _, type := _, pos := _, after := _, guard := _ }) (v := ?_) rfl (by kernel_rfl) (by kernel_rfl) (by kernel_rfl) (fun _ _ _ h => h) (Or.inl ⟨by rfl, ?_⟩) (by assumption) ?_
        rotate_left
        · intro w hSw
          have hT := (unhide HZ).below hSw; have z0 := hT.cell 0 rfl; have z1 := hT.cell 1 rfl; have z2 := hT.cell 2 rfl; clear hT; have hT := (unhide HY).below hSw; have y0 := hT.cell 0 rfl; have y1 := hT.cell 1 rfl; have y2 := hT.cell 2 rfl; clear hT; have hSB := below_tr (unhide HB) hSw; have g0 := cell_bl hSB (unhide HC0); have g1 := cell_bl hSB (unhide HC1); have g2 := cell_bl hSB (unhide HC2); have h0 := cell_bl hSB (unhide HD0); have h1' := cell_bl hSB (unhide HD1); have h2' := cell_bl hSB (unhide HD2); clear hSB
          first | (go_simp; done) | (go_simp; with_reducible rfl) | with_reducible rfl | rfl
        try simp only [Act.put, List.setIfInBounds_toArray, List.set_cons_zero, List.set_cons_succ]
        refine wpAnyH_take (i := 4) (oi := { dst := some 33, op := _, type := _, pos := _, after := _, guard := _ }) (v := ?_) rfl (by kernel_rfl) (by kernel_rfl) (by kernel_rfl) (fun _ _ _ h => h) (Or.inl ⟨by rfl, ?_⟩) (by assumption) ?_
        rotate_left
        · intro w hSw
          first | (go_simp; done) | (go_simp; with_reducible rfl) | with_reducible rfl | rfl
        try simp only [Act.put, List.setIfInBounds_toArray, List.set_cons_zero, List.set_cons_succ]
        refine wpAnyH_take (i := 5) (oi := { dst := some 34, op := _, type := _, pos := _, after := _, guard := _ }) (v := ?_) rfl (by kernel_rfl) (by kernel_rfl) (by kernel_rfl) (fun _ _ _ h => h) (Or.inl ⟨by rfl, ?_⟩) (by assumption) ?_
        rotate_left
        · intro w hSw
          first | (go_simp; done) | (go_simp; with_reducible rfl) | with_reducible rfl | rfl
        try simp only [Act.put, List.setIfInBounds_toArray, List.set_cons_zero, List.set_cons_succ]
        refine wpAnyH_take (i := 6) (oi := { dst := some 35, op := _, type := _, pos := _, after := _, guard := _ }) (v := ?_) rfl (by kernel_rfl) (by kernel_rfl) (by kernel_rfl) (fun _ _ _ h => h) (Or.inl ⟨by rfl, ?_⟩) (by assumption) ?_
        rotate_left
        · intro w hSw
          have hT := (unhide HZ).below hSw; have z0 := hT.cell 0 rfl; have z1 := hT.cell 1 rfl; have z2 := hT.cell 2 rfl; clear hT; have hT := (unhide HY).below hSw; have y0 := hT.cell 0 rfl; have y1 := hT.cell 1 rfl; have y2 := hT.cell 2 rfl; clear hT; have hSB := below_tr (unhide HB) hSw; have g0 := cell_bl hSB (unhide HC0); have g1 := cell_bl hSB (unhide HC1); have g2 := cell_bl hSB (unhide HC2); have h0 := cell_bl hSB (unhide HD0); have h1' := cell_bl hSB (unhide HD1); have h2' := cell_bl hSB (unhide HD2); clear hSB
          first | (go_simp; done) | (go_simp; with_reducible rfl) | with_reducible rfl | rfl
        try simp only [Act.put, List.setIfInBounds_toArray, List.set_cons_zero, List.set_cons_succ]
        refine wpAnyH_take (i := 7) (oi := { dst := some 36, op := _, type := _, pos := _, after := _, guard := _ }) (v := ?_) rfl (by kernel_rfl) (by kernel_rfl) (by kernel_rfl) (fun _ _ _ h => h) (Or.inl ⟨by rfl, ?_⟩) (by assumption) ?_
        rotate_left
        · intro w hSw
          have hT := (unhide HZ).below hSw; have z0 := hT.cell 0 rfl; have z1 := hT.cell 1 rfl; have z2 := hT.cell 2 rfl; clear hT; have hT := (unhide HY).below hSw; have y0 := hT.cell 0 rfl; have y1 := hT.cell 1 rfl; have y2 := hT.cell 2 rfl; clear hT; have hSB := below_tr (unhide HB) hSw; have g0 := cell_bl hSB (unhide HC0); have g1 := cell_bl hSB (unhide HC1); have g2 := cell_bl hSB (unhide HC2); have h0 := cell_bl hSB (unhide HD0); have h1' := cell_bl hSB (unhide HD1); have h2' := cell_bl hSB (unhide HD2); clear hSB
          first | (go_simp; done) | (go_simp; with_reducible rfl) | with_reducible rfl | rfl
        try simp only [Act.put, List.setIfInBounds_toArray, List.set_cons_zero, List.set_cons_succ]
        have HD := below_drew WB
        generalize WB.drew = V0 at *
        refine wpAnyH_ready (rs := [8]) (by kernel_rfl) (by simp) ?_
        refine AllReadyH.cons (o := { dst := some 37, op := _, type := _, pos := _, after := _, guard := _ }) rfl (fun K hK => ?_) AllReadyH.nil
        go_simp
        go_at_call 146
        refine (c146 x0 x1 x2 y0' y1' y2' _).mono ?_
        rintro e V1 ⟨rfl, hb⟩
        replace HD := below_then HD hb
        clear hb
        rw [hf]
        try go_wp2_with fail
        refine hK.out _ _ HD (fun hHeld => ?_)
        clear hK K hHeld
        try simp only [Act.put, List.setIfInBounds_toArray, List.set_cons_zero, List.set_cons_succ]
        refine wpAnyH_done (by kernel_rfl) ?_ _
        replace HB := hide (below_tr (unhide HB) HD)
        replace HZ := hide ((unhide HZ).bel HD)
        replace HY := hide ((unhide HY).bel HD)
        clear HD 
        have z0 := (unhide HZ).cell 0 rfl
        have z0f := (unhide HZ).frozen 0 rfl
        have z1 := (unhide HZ).cell 1 rfl
        have z1f := (unhide HZ).frozen 1 rfl
        have z2 := (unhide HZ).cell 2 rfl
        have z2f := (unhide HZ).frozen 2 rfl
        have y0 := (unhide HY).cell 0 rfl
        have y0f := (unhide HY).frozen 0 rfl
        have y1 := (unhide HY).cell 1 rfl
        have y1f := (unhide HY).frozen 1 rfl
        have y2 := (unhide HY).cell 2 rfl
        have y2f := (unhide HY).frozen 2 rfl
        go_wp2_with fail
        (try clear z0 z0f z1 z1f z2 z2f y0 y0f y1 y1f y2 y2f)
        go_roundw
        case rel => exact ⟨k2 + 1, by omega, by go_num, unhide HW2, unhide HZ, unhide HY, unhide HB⟩
        case measure => simp [intOf]; omega
      have HV : Hid (meet xs ys = some ((x0, x1, x2), (y0', y1', y2'))) := (unhide HU).trans ((unhide HW).trans (meet_hit (hw2.trans (meetIn_hit hf))))
      clear hw2 HW HU
      have z0 := (unhide HZ).cell 0 rfl
      have z0f := (unhide HZ).frozen 0 rfl
      have z1 := (unhide HZ).cell 1 rfl
      have z1f := (unhide HZ).frozen 1 rfl
      have z2 := (unhide HZ).cell 2 rfl
      have z2f := (unhide HZ).frozen 2 rfl
      have y0 := (unhide HY).cell 0 rfl
      have y0f := (unhide HY).frozen 0 rfl
      have y1 := (unhide HY).cell 1 rfl
      have y1f := (unhide HY).frozen 1 rfl
      have y2 := (unhide HY).cell 2 rfl
      have y2f := (unhide HY).frozen 2 rfl
      go_wp2_with fail
      (try clear z0 z0f z1 z1f z2 z2f y0 y0f y1 y1f y2 y2f)
      (try clear z0 z0f z1 z1f z2 z2f y0 y0f y1 y1f y2 y2f)
      refine wp_region_held_drew (S := fun w' => Below WB.heap.size WB w') (by kernel_rfl) (below_drew WB) (fun hHeld => ?_)
      refine wpAnyH_take (i := 0) (oi := { dst := some 29, op := _, type := _, pos := _, after := _, guard := _ }) (v := ?_) rfl (by kernel_rfl) (by kernel_rfl) (by kernel_rfl) (fun _ _ _ h => h) (Or.inl ⟨by rfl, ?_⟩) (by assumption) ?_
      rotate_left
      · intro w hSw
        first | (go_simp; done) | (go_simp; with_reducible rfl) | with_reducible rfl | rfl
      try simp only [Act.put, List.setIfInBounds_toArray, List.set_cons_zero, List.set_cons_succ]
      refine wpAnyH_take (i := 1) (oi := { dst := some 30, op := _, type := _, pos := _, after := _, guard := _ }) (v := ?_) rfl (by kernel_rfl) (by kernel_rfl) (by kernel_rfl) (fun _ _ _ h => h) (Or.inl ⟨by rfl, ?_⟩) (by assumption) ?_
      rotate_left
      · intro w hSw
        first | (go_simp; done) | (go_simp; with_reducible rfl) | with_reducible rfl | rfl
      try simp only [Act.put, List.setIfInBounds_toArray, List.set_cons_zero, List.set_cons_succ]
      refine wpAnyH_take (i := 2) (oi := { dst := some 31, op := _, type := _, pos := _, after := _, guard := _ }) (v := ?_) rfl (by kernel_rfl) (by kernel_rfl) (by kernel_rfl) (fun _ _ _ h => h) (Or.inl ⟨by rfl, ?_⟩) (by assumption) ?_
      rotate_left
      · intro w hSw
        have hT := (unhide HZ).below hSw; have z0 := hT.cell 0 rfl; have z1 := hT.cell 1 rfl; have z2 := hT.cell 2 rfl; clear hT; have hT := (unhide HY).below hSw; have y0 := hT.cell 0 rfl; have y1 := hT.cell 1 rfl; have y2 := hT.cell 2 rfl; clear hT; have hSB := below_tr (unhide HB) hSw; have g0 := cell_bl hSB (unhide HC0); have g1 := cell_bl hSB (unhide HC1); have g2 := cell_bl hSB (unhide HC2); have h0 := cell_bl hSB (unhide HD0); have h1' := cell_bl hSB (unhide HD1); have h2' := cell_bl hSB (unhide HD2); clear hSB
        first | (go_simp; done) | (go_simp; with_reducible rfl) | with_reducible rfl | rfl
      try simp only [Act.put, List.setIfInBounds_toArray, List.set_cons_zero, List.set_cons_succ]
      refine wpAnyH_take (i := 3) (oi := { dst := some 32, op := _, type := _, pos := _, after := _, guard := _ }) (v := ?_) rfl (by kernel_rfl) (by kernel_rfl) (by kernel_rfl) (fun _ _ _ h => h) (Or.inl ⟨by rfl, ?_⟩) (by assumption) ?_
      rotate_left
      · intro w hSw
        have hT := (unhide HZ).below hSw; have z0 := hT.cell 0 rfl; have z1 := hT.cell 1 rfl; have z2 := hT.cell 2 rfl; clear hT; have hT := (unhide HY).below hSw; have y0 := hT.cell 0 rfl; have y1 := hT.cell 1 rfl; have y2 := hT.cell 2 rfl; clear hT; have hSB := below_tr (unhide HB) hSw; have g0 := cell_bl hSB (unhide HC0); have g1 := cell_bl hSB (unhide HC1); have g2 := cell_bl hSB (unhide HC2); have h0 := cell_bl hSB (unhide HD0); have h1' := cell_bl hSB (unhide HD1); have h2' := cell_bl hSB (unhide HD2); clear hSB
        first | (go_simp; done) | (go_simp; with_reducible rfl) | with_reducible rfl | rfl
      try simp only [Act.put, List.setIfInBounds_toArray, List.set_cons_zero, List.set_cons_succ]
      refine wpAnyH_take (i := 4) (oi := { dst := some 33, op := _, type := _, pos := _, after := _, guard := _ }) (v := ?_) rfl (by kernel_rfl) (by kernel_rfl) (by kernel_rfl) (fun _ _ _ h => h) (Or.inl ⟨by rfl, ?_⟩) (by assumption) ?_
      rotate_left
      · intro w hSw
        first | (go_simp; done) | (go_simp; with_reducible rfl) | with_reducible rfl | rfl
      try simp only [Act.put, List.setIfInBounds_toArray, List.set_cons_zero, List.set_cons_succ]
      refine wpAnyH_take (i := 5) (oi := { dst := some 34, op := _, type := _, pos := _, after := _, guard := _ }) (v := ?_) rfl (by kernel_rfl) (by kernel_rfl) (by kernel_rfl) (fun _ _ _ h => h) (Or.inl ⟨by rfl, ?_⟩) (by assumption) ?_
      rotate_left
      · intro w hSw
        first | (go_simp; done) | (go_simp; with_reducible rfl) | with_reducible rfl | rfl
      try simp only [Act.put, List.setIfInBounds_toArray, List.set_cons_zero, List.set_cons_succ]
      refine wpAnyH_take (i := 6) (oi := { dst := some 35, op := _, type := _, pos := _, after := _, guard := _ }) (v := ?_) rfl (by kernel_rfl) (by kernel_rfl) (by kernel_rfl) (fun _ _ _ h => h) (Or.inl ⟨by rfl, ?_⟩) (by assumption) ?_
      rotate_left
      · intro w hSw
        have hT := (unhide HZ).below hSw; have z0 := hT.cell 0 rfl; have z1 := hT.cell 1 rfl; have z2 := hT.cell 2 rfl; clear hT; have hT := (unhide HY).below hSw; have y0 := hT.cell 0 rfl; have y1 := hT.cell 1 rfl; have y2 := hT.cell 2 rfl; clear hT; have hSB := below_tr (unhide HB) hSw; have g0 := cell_bl hSB (unhide HC0); have g1 := cell_bl hSB (unhide HC1); have g2 := cell_bl hSB (unhide HC2); have h0 := cell_bl hSB (unhide HD0); have h1' := cell_bl hSB (unhide HD1); have h2' := cell_bl hSB (unhide HD2); clear hSB
        first | (go_simp; done) | (go_simp; with_reducible rfl) | with_reducible rfl | rfl
      try simp only [Act.put, List.setIfInBounds_toArray, List.set_cons_zero, List.set_cons_succ]
      refine wpAnyH_take (i := 7) (oi := { dst := some 36, op := _, type := _, pos := _, after := _, guard := _ }) (v := ?_) rfl (by kernel_rfl) (by kernel_rfl) (by kernel_rfl) (fun _ _ _ h => h) (Or.inl ⟨by rfl, ?_⟩) (by assumption) ?_
      rotate_left
      · intro w hSw
        have hT := (unhide HZ).below hSw; have z0 := hT.cell 0 rfl; have z1 := hT.cell 1 rfl; have z2 := hT.cell 2 rfl; clear hT; have hT := (unhide HY).below hSw; have y0 := hT.cell 0 rfl; have y1 := hT.cell 1 rfl; have y2 := hT.cell 2 rfl; clear hT; have hSB := below_tr (unhide HB) hSw; have g0 := cell_bl hSB (unhide HC0); have g1 := cell_bl hSB (unhide HC1); have g2 := cell_bl hSB (unhide HC2); have h0 := cell_bl hSB (unhide HD0); have h1' := cell_bl hSB (unhide HD1); have h2' := cell_bl hSB (unhide HD2); clear hSB
        first | (go_simp; done) | (go_simp; with_reducible rfl) | with_reducible rfl | rfl
      try simp only [Act.put, List.setIfInBounds_toArray, List.set_cons_zero, List.set_cons_succ]
      have HD := below_drew WB
      generalize WB.drew = V0 at *
      refine wpAnyH_ready (rs := [8]) (by kernel_rfl) (by simp) ?_
      refine AllReadyH.cons (o := { dst := some 37, op := _, type := _, pos := _, after := _, guard := _ }) rfl (fun K hK => ?_) AllReadyH.nil
      go_simp
      go_at_call 146
      refine (c146 x0 x1 x2 y0' y1' y2' _).mono ?_
      rintro e V1 ⟨rfl, hb⟩
      replace HD := below_then HD hb
      clear hb
      rw [hf]
      try go_wp2_with fail
      refine hK.out _ _ HD (fun hHeld => ?_)
      clear hK K hHeld
      try simp only [Act.put, List.setIfInBounds_toArray, List.set_cons_zero, List.set_cons_succ]
      refine wpAnyH_done (by kernel_rfl) ?_ _
      replace HB := hide (below_tr (unhide HB) HD)
      replace HZ := hide ((unhide HZ).bel HD)
      replace HY := hide ((unhide HY).bel HD)
      clear HD 
      have z0 := (unhide HZ).cell 0 rfl
      have z0f := (unhide HZ).frozen 0 rfl
      have z1 := (unhide HZ).cell 1 rfl
      have z1f := (unhide HZ).frozen 1 rfl
      have z2 := (unhide HZ).cell 2 rfl
      have z2f := (unhide HZ).frozen 2 rfl
      have y0 := (unhide HY).cell 0 rfl
      have y0f := (unhide HY).frozen 0 rfl
      have y1 := (unhide HY).cell 1 rfl
      have y1f := (unhide HY).frozen 1 rfl
      have y2 := (unhide HY).cell 2 rfl
      have y2f := (unhide HY).frozen 2 rfl
      have g0 := cell_bl (unhide HB) (unhide HC0)
      have g1 := cell_bl (unhide HB) (unhide HC1)
      have g2 := cell_bl (unhide HB) (unhide HC2)
      have h0 := cell_bl (unhide HB) (unhide HD0)
      have h1' := cell_bl (unhide HB) (unhide HD1)
      have h2' := cell_bl (unhide HB) (unhide HD2)
      go_wp2_with fail
      go_region
      all_goals (go_wp2_with fail)
      obtain ⟨b1, b2, b3⟩ := met_put (unhide HZ) (unhide HY) rfl rfl (unhide HB) (Nat.le_refl _) (Nat.le_succ _) (Nat.ne_of_lt (Nat.lt_succ_self _))
      rw [unhide HV]
      exact bodyPost_ret (v := metV (some ((x0, x1, x2), (y0', y1', y2')))) (results_cct Try.results56 rfl rfl (load_hed b1) (load_hed b2)) rfl ⟨rfl, b3⟩

end Go.Proofs.Ytdpkdcdieajkbaa
