/-
  The walk of the law FnHedFork: at every code it answers true, and nothing that was there is written.
-/
import Derived.Test.YtimaidcjccakeaaDhf
import Derived.Test.YtimaidcjccakeaaLogc
namespace Go.Proofs.Ytimaidcjccakeaa
open Go.RowKit
set_option linter.unusedVariables false
set_option maxRecDepth 100000

/-- nothing older than a world has been written since -/
def BelowOf (A W : World) : Prop := Below A.heap.size A W
theorem BelowOf.bel {A W W' : World} (h : BelowOf A W) (hb : Below W.heap.size W W') : BelowOf A W' := below_tr h hb
theorem at_true {es : List Tm.Ent} {i : Int} (h : aI es i = true) : aS es i = i ∧ ∃ k : Nat, k ≤ es.length ∧ i = (k : Int) ∧ foldIs (es.take k) = true := by
  by_cases hin : 0 ≤ i ∧ i ≤ (es.length : Int)
  · obtain ⟨h1, h2⟩ := hin
    obtain ⟨k, rfl⟩ := Int.eq_ofNat_of_zero_le h1
    obtain ⟨f0, f1, f2, f3⟩ := at_yes (es := es) (k := k) (by omega)
    rw [f3] at h
    refine ⟨?_, k, by omega, rfl, h⟩
    rw [f0, (hed_yes h).1, List.length_take]
    omega
  · rw [(at_no hin).2.2.2] at h; cases h
theorem fork_self (a b c : Int) : hedFork a b c a b c = false := by unfold hedFork; simp
theorem fork_sym (a b c a' b' c' : Int) : hedFork a b c a' b' c' = hedFork a' b' c' a b c := by
  unfold hedFork
  have e1 : decide (a = a') = decide (a' = a) := by rw [Bool.eq_iff_iff]; simp only [decide_eq_true_eq]; exact ⟨fun h => h.symm, fun h => h.symm⟩
  have e2 : decide ((a, b, c) = (a', b', c')) = decide ((a', b', c') = (a, b, c)) := by rw [Bool.eq_iff_iff]; simp only [decide_eq_true_eq]; exact ⟨fun h => h.symm, fun h => h.symm⟩
  rw [e1, e2]
  cases hedOk a b c <;> cases hedOk a' b' c' <;> rfl
theorem no_fork_at {es : List Tm.Ent} {i j : Int} (h1 : aI es i = true) (h2 : aI es j = true) : hedFork (aS es i) (aL es i) (aO es i) (aS es j) (aL es j) (aO es j) = false := by
  by_cases e : i = j
  · subst e; exact fork_self _ _ _
  · exact fork_3 (by rw [(at_true h1).1, (at_true h2).1]; exact e)

set_option maxHeartbeats 8000000 in
theorem law12 (bs cs : List Int) (ao bo : Option Addr) (n cap m cap' : Nat) (w : World) (hn : bs.length = n) (hc : n ≤ cap) (hm : cap ≤ maxLen) (hB : Bytes w ao bs) (hn2 : cs.length = m) (hc2 : m ≤ cap') (hm2 : cap' ≤ maxLen) (hB2 : Bytes w bo cs) :
    Calls Try.prog 12 #[.slice ao n cap, .slice bo m cap'] w (Holds w) := by
  have HM := hide hm
  unfold maxLen at hm
  have HBY := hide hB
  have HN := hide hn
  have HB := hide (Below.refl w.heap.size w)
  have HM2 := hide hm2
  unfold maxLen at hm2
  have HBZ := hide hB2
  have HN2 := hide hn2
  clear hB hn hB2 hn2
  by_cases hbig : (1048576 : Int) < (n : Int)
  case pos =>
    go_enter Try.func12, Try.ntmps12
    go_wp2_with fail
    go_ret
    exact ⟨rfl, unhide HB⟩
  by_cases hbig2 : (1048576 : Int) < (m : Int)
  case pos =>
    go_enter Try.func12, Try.ntmps12
    go_wp2_with fail
    go_ret
    exact ⟨rfl, unhide HB⟩
  go_enter Try.func12, Try.ntmps12
  go_wp2_with fail
  refine (c85 bs ao n cap _ HN.out hc (unhide HM) (unhide HBY)).mono ?_
  rintro e w1 ⟨a, b, c, a', b', c', rfl, hb⟩
  replace HB := hide (below_tr (unhide HB) hb)
  replace HBZ := hide ((unhide HBZ).bel hb)
  clear HBY
  clear hb
  replace HB := hide (below_al (o := .cells #[.int .i64 a, .int .i64 b, .int .i64 c] 65) (unhide HB))
  replace HBZ := hide ((unhide HBZ).bel (below_a (.cells #[.int .i64 a, .int .i64 b, .int .i64 c] 65)))
  have HX := hide (box_new w1 [.int .i64 a, .int .i64 b, .int .i64 c] 65 (by simp [Value.oneCell']))
  have x0 := (unhide HX).cell 0 rfl
  have x1 := (unhide HX).cell 1 rfl
  have x2 := (unhide HX).cell 2 rfl
  (try clear x0 x1 x2)
  replace HB := hide (below_al (o := .cells #[.int .i64 a', .int .i64 b', .int .i64 c'] 65) (unhide HB))
  replace HBZ := hide ((unhide HBZ).bel (below_a (.cells #[.int .i64 a', .int .i64 b', .int .i64 c'] 65)))
  replace HX := hide ((unhide HX).bel (below_a (.cells #[.int .i64 a', .int .i64 b', .int .i64 c'] 65)))
  have HY := hide (box_new (w1.alloc (.cells #[.int .i64 a, .int .i64 b, .int .i64 c] 65)) [.int .i64 a', .int .i64 b', .int .i64 c'] 65 (by simp [Value.oneCell']))
  (try simp only [World.size_alloc] at HY)
  have x0 := (unhide HX).cell 0 rfl
  have x1 := (unhide HX).cell 1 rfl
  have x2 := (unhide HX).cell 2 rfl
  have y0 := (unhide HY).cell 0 rfl
  have y1 := (unhide HY).cell 1 rfl
  have y2 := (unhide HY).cell 2 rfl
  go_wp2_with fail
  have HSY := hide (fork_sym a b c a' b' c')
  have HSF := hide (fork_self a b c)
  generalize hf : hedFork a b c a' b' c' = f at *
  have HF := hide hf
  clear hf
  refine (c86 a b c a' b' c' _).mono ?_
  rintro e w2 ⟨rfl, hb⟩
  rw [unhide HF]
  (try clear x0 x1 x2 y0 y1 y2)
  replace HB := hide (below_tr (unhide HB) hb)
  replace HBZ := hide ((unhide HBZ).bel hb)
  replace HX := hide ((unhide HX).bel hb)
  replace HY := hide ((unhide HY).bel hb)
  clear hb
  have x0 := (unhide HX).cell 0 rfl
  have x1 := (unhide HX).cell 1 rfl
  have x2 := (unhide HX).cell 2 rfl
  have y0 := (unhide HY).cell 0 rfl
  have y1 := (unhide HY).cell 1 rfl
  have y2 := (unhide HY).cell 2 rfl
  go_wp2_with fail
  refine (c87 a b c a' b' c' _).mono ?_
  rintro e w3 ⟨rfl, hb⟩
  rw [unhide HF]
  (try clear x0 x1 x2 y0 y1 y2)
  replace HB := hide (below_tr (unhide HB) hb)
  replace HBZ := hide ((unhide HBZ).bel hb)
  replace HX := hide ((unhide HX).bel hb)
  replace HY := hide ((unhide HY).bel hb)
  clear hb
  have x0 := (unhide HX).cell 0 rfl
  have x1 := (unhide HX).cell 1 rfl
  have x2 := (unhide HX).cell 2 rfl
  have y0 := (unhide HY).cell 0 rfl
  have y1 := (unhide HY).cell 1 rfl
  have y2 := (unhide HY).cell 2 rfl
  go_wp2_with fail
  refine (c86 a' b' c' a b c _).mono ?_
  rintro e w4 ⟨rfl, hb⟩
  rw [← unhide HSY]
  (try clear x0 x1 x2 y0 y1 y2)
  replace HB := hide (below_tr (unhide HB) hb)
  replace HBZ := hide ((unhide HBZ).bel hb)
  replace HX := hide ((unhide HX).bel hb)
  replace HY := hide ((unhide HY).bel hb)
  clear hb
  have x0 := (unhide HX).cell 0 rfl
  have x1 := (unhide HX).cell 1 rfl
  have x2 := (unhide HX).cell 2 rfl
  have y0 := (unhide HY).cell 0 rfl
  have y1 := (unhide HY).cell 1 rfl
  have y2 := (unhide HY).cell 2 rfl
  go_wp2_with fail
  refine (c86 a b c a b c _).mono ?_
  rintro e w5 ⟨rfl, hb⟩
  rw [unhide HSF]
  (try clear x0 x1 x2 y0 y1 y2)
  replace HB := hide (below_tr (unhide HB) hb)
  replace HBZ := hide ((unhide HBZ).bel hb)
  replace HX := hide ((unhide HX).bel hb)
  replace HY := hide ((unhide HY).bel hb)
  clear hb
  have x0 := (unhide HX).cell 0 rfl
  have x1 := (unhide HX).cell 1 rfl
  have x2 := (unhide HX).cell 2 rfl
  have y0 := (unhide HY).cell 0 rfl
  have y1 := (unhide HY).cell 1 rfl
  have y2 := (unhide HY).cell 2 rfl
  go_wp2_with fail
  refine (c73 cs bo m cap' _ HN2.out hc2 (unhide HM2) (unhide HBZ)).mono ?_
  rintro e w6 ⟨v, ls, t, rfl, hls, ht, ho, hb⟩
  obtain ⟨al2, capl2, rfl, hcl2, hR1, -⟩ := ho.row
  (try clear x0 x1 x2 y0 y1 y2)
  replace HB := hide (below_tr (unhide HB) hb)
  replace HX := hide ((unhide HX).bel hb)
  replace HY := hide ((unhide HY).bel hb)
  clear HBZ
  have HRL := hide (hR1)
  clear hb ho hR1
  have x0 := (unhide HX).cell 0 rfl
  have x1 := (unhide HX).cell 1 rfl
  have x2 := (unhide HX).cell 2 rfl
  have y0 := (unhide HY).cell 0 rfl
  have y1 := (unhide HY).cell 1 rfl
  have y2 := (unhide HY).cell 2 rfl
  go_wp2_with fail
  go_loopw [10] (fun i wr => ∃ k : Nat, k ≤ ls.length + 1 ∧ i = .int .i64 k ∧ BelowOf w6 wr) (fun i _ => ls.length + 1 - (intOf i).toNat)
  case atStart => exact ⟨0, Nat.zero_le _, rfl, Below.refl _ _⟩
  case round =>
    obtain ⟨k, hk, rfl, hbw⟩ := hrel
    (try clear x0 x1 x2 y0 y1 y2)
    have hb : Below w6.heap.size w6 wr := hbw
    have HBW := hide hbw
    clear hbw
    replace HB := hide (below_tr (unhide HB) hb)
    replace HX := hide ((unhide HX).bel hb)
    replace HY := hide ((unhide HY).bel hb)
    replace HRL := hide ((unhide HRL).bel hb)
    clear hb
    by_cases hlt : (k : Int) ≤ (ls.length : Int)
    case pos =>
      have x0 := (unhide HX).cell 0 rfl
      have x1 := (unhide HX).cell 1 rfl
      have x2 := (unhide HX).cell 2 rfl
      have y0 := (unhide HY).cell 0 rfl
      have y1 := (unhide HY).cell 1 rfl
      have y2 := (unhide HY).cell 2 rfl
      have HNF := hide (fun h1 h2 => no_fork_at (es := ls) (i := (k : Int)) (j := t) h1 h2)
      generalize hs1 : aS ls (k : Int) = s1 at *
      generalize hl1 : aL ls (k : Int) = l1 at *
      generalize ho1 : aO ls (k : Int) = o1 at *
      generalize hb1 : aI ls (k : Int) = b1 at *
      generalize hs2 : aS ls t = s2 at *
      generalize hl2 : aL ls t = l2 at *
      generalize ho2 : aO ls t = o2 at *
      generalize hb2 : aI ls t = b2 at *
      have HS1 := hide hs1
      have HL1 := hide hl1
      have HO1 := hide ho1
      have HB1 := hide hb1
      have HS2 := hide hs2
      have HL2 := hide hl2
      have HO2 := hide ho2
      have HB2 := hide hb2
      clear hs1 hl1 ho1 hb1 hs2 hl2 ho2 hb2
      go_wp2_with fail
      refine (c74 ls (k : Int) al2 ls.length capl2 _ rfl hcl2 (by omega) (unhide HRL)).mono ?_
      rintro e u1 ⟨rfl, hb⟩
      rw [unhide HS1, unhide HL1, unhide HO1, unhide HB1]
      (try clear x0 x1 x2 y0 y1 y2)
      replace HB := hide (below_tr (unhide HB) hb)
      replace HX := hide ((unhide HX).bel hb)
      replace HY := hide ((unhide HY).bel hb)
      replace HRL := hide ((unhide HRL).bel hb)
      replace HBW := hide ((unhide HBW).bel hb)
      clear hb
      have x0 := (unhide HX).cell 0 rfl
      have x1 := (unhide HX).cell 1 rfl
      have x2 := (unhide HX).cell 2 rfl
      have y0 := (unhide HY).cell 0 rfl
      have y1 := (unhide HY).cell 1 rfl
      have y2 := (unhide HY).cell 2 rfl
      (try clear x0 x1 x2 y0 y1 y2)
      replace HB := hide (below_al (o := .cells #[.int .i64 s1, .int .i64 l1, .int .i64 o1] 65) (unhide HB))
      replace HX := hide ((unhide HX).bel (below_a (.cells #[.int .i64 s1, .int .i64 l1, .int .i64 o1] 65)))
      replace HY := hide ((unhide HY).bel (below_a (.cells #[.int .i64 s1, .int .i64 l1, .int .i64 o1] 65)))
      replace HRL := hide ((unhide HRL).bel (below_a (.cells #[.int .i64 s1, .int .i64 l1, .int .i64 o1] 65)))
      replace HBW := hide ((unhide HBW).bel (below_a (.cells #[.int .i64 s1, .int .i64 l1, .int .i64 o1] 65)))
      have HU := hide (box_new u1 [.int .i64 s1, .int .i64 l1, .int .i64 o1] 65 (by simp [Value.oneCell']))
      have x0 := (unhide HX).cell 0 rfl
      have x1 := (unhide HX).cell 1 rfl
      have x2 := (unhide HX).cell 2 rfl
      have y0 := (unhide HY).cell 0 rfl
      have y1 := (unhide HY).cell 1 rfl
      have y2 := (unhide HY).cell 2 rfl
      have u0 := (unhide HU).cell 0 rfl
      have u1c := (unhide HU).cell 1 rfl
      have u2c := (unhide HU).cell 2 rfl
      go_wp2_with fail
      refine (c74 ls t al2 ls.length capl2 _ rfl hcl2 (by omega) (unhide HRL)).mono ?_
      rintro e u2 ⟨rfl, hb⟩
      rw [unhide HS2, unhide HL2, unhide HO2, unhide HB2]
      (try clear x0 x1 x2 y0 y1 y2 u0 u1c u2c)
      replace HB := hide (below_tr (unhide HB) hb)
      replace HX := hide ((unhide HX).bel hb)
      replace HY := hide ((unhide HY).bel hb)
      replace HRL := hide ((unhide HRL).bel hb)
      replace HBW := hide ((unhide HBW).bel hb)
      replace HU := hide ((unhide HU).bel hb)
      clear hb
      have x0 := (unhide HX).cell 0 rfl
      have x1 := (unhide HX).cell 1 rfl
      have x2 := (unhide HX).cell 2 rfl
      have y0 := (unhide HY).cell 0 rfl
      have y1 := (unhide HY).cell 1 rfl
      have y2 := (unhide HY).cell 2 rfl
      have u0 := (unhide HU).cell 0 rfl
      have u1c := (unhide HU).cell 1 rfl
      have u2c := (unhide HU).cell 2 rfl
      have hlt3 := (unhide HU).lt
      (try clear x0 x1 x2 y0 y1 y2 u0 u1c u2c)
      replace HB := hide (below_al (o := .cells #[.int .i64 s2, .int .i64 l2, .int .i64 o2] 65) (unhide HB))
      replace HX := hide ((unhide HX).bel (below_a (.cells #[.int .i64 s2, .int .i64 l2, .int .i64 o2] 65)))
      replace HY := hide ((unhide HY).bel (below_a (.cells #[.int .i64 s2, .int .i64 l2, .int .i64 o2] 65)))
      replace HRL := hide ((unhide HRL).bel (below_a (.cells #[.int .i64 s2, .int .i64 l2, .int .i64 o2] 65)))
      replace HBW := hide ((unhide HBW).bel (below_a (.cells #[.int .i64 s2, .int .i64 l2, .int .i64 o2] 65)))
      replace HU := hide ((unhide HU).bel (below_a (.cells #[.int .i64 s2, .int .i64 l2, .int .i64 o2] 65)))
      have HV := hide (box_new u2 [.int .i64 s2, .int .i64 l2, .int .i64 o2] 65 (by simp [Value.oneCell']))
      have x0 := (unhide HX).cell 0 rfl
      have x1 := (unhide HX).cell 1 rfl
      have x2 := (unhide HX).cell 2 rfl
      have y0 := (unhide HY).cell 0 rfl
      have y1 := (unhide HY).cell 1 rfl
      have y2 := (unhide HY).cell 2 rfl
      have u0 := (unhide HU).cell 0 rfl
      have u1c := (unhide HU).cell 1 rfl
      have u2c := (unhide HU).cell 2 rfl
      have v0 := (unhide HV).cell 0 rfl
      have v1 := (unhide HV).cell 1 rfl
      have v2 := (unhide HV).cell 2 rfl
      cases b1
      case false =>
        go_wp2_with fail
        go_roundw
        case rel => exact ⟨k + 1, by omega, by go_num, unhide HBW⟩
        case measure => simp [intOf]; omega
      cases b2
      case false =>
        go_wp2_with fail
        go_roundw
        case rel => exact ⟨k + 1, by omega, by go_num, unhide HBW⟩
        case measure => simp [intOf]; omega
      have HNG := hide (unhide HNF rfl rfl)
      go_wp2_with fail
      refine (c86 s1 l1 o1 s2 l2 o2 _).mono ?_
      rintro e u3 ⟨rfl, hb⟩
      rw [unhide HNG]
      clear hlt3
      (try clear x0 x1 x2 y0 y1 y2 u0 u1c u2c v0 v1 v2)
      replace HB := hide (below_tr (unhide HB) hb)
      replace HX := hide ((unhide HX).bel hb)
      replace HY := hide ((unhide HY).bel hb)
      replace HRL := hide ((unhide HRL).bel hb)
      replace HBW := hide ((unhide HBW).bel hb)
      clear HU HV
      clear hb
      have x0 := (unhide HX).cell 0 rfl
      have x1 := (unhide HX).cell 1 rfl
      have x2 := (unhide HX).cell 2 rfl
      have y0 := (unhide HY).cell 0 rfl
      have y1 := (unhide HY).cell 1 rfl
      have y2 := (unhide HY).cell 2 rfl
      go_wp2_with fail
      go_roundw
      case rel => exact ⟨k + 1, by omega, by go_num, unhide HBW⟩
      case measure => simp [intOf]; omega
    clear HRL HBW hk
    rcases h1 : hedOk a b c with _ | _
    case false =>
      have hf := fork_1 (a' := a') (b' := b') (c' := c') h1
      rw [unhide HF] at hf
      subst hf
      have x0 := (unhide HX).cell 0 rfl
      have x1 := (unhide HX).cell 1 rfl
      have x2 := (unhide HX).cell 2 rfl
      have y0 := (unhide HY).cell 0 rfl
      have y1 := (unhide HY).cell 1 rfl
      have y2 := (unhide HY).cell 2 rfl
      go_wp2_with fail
      refine (c76 a b c _).mono ?_
      rintro e u1 ⟨rfl, hb⟩
      (try clear x0 x1 x2 y0 y1 y2)
      replace HB := hide (below_tr (unhide HB) hb)
      replace HX := hide ((unhide HX).bel hb)
      replace HY := hide ((unhide HY).bel hb)
      clear hb
      have x0 := (unhide HX).cell 0 rfl
      have x1 := (unhide HX).cell 1 rfl
      have x2 := (unhide HX).cell 2 rfl
      have y0 := (unhide HY).cell 0 rfl
      have y1 := (unhide HY).cell 1 rfl
      have y2 := (unhide HY).cell 2 rfl
      go_wp2_with fail
      refine (c41 _).mono ?_
      rintro e w8 ⟨rfl, hww⟩
      have hww := hww.symm
      subst hww
      go_wp2_with fail
      go_ret
      exact ⟨rfl, unhide HB⟩
    rcases h2 : hedOk a' b' c' with _ | _
    case false =>
      have hf := fork_2 (a := a) (b := b) (c := c) h2
      rw [unhide HF] at hf
      subst hf
      have x0 := (unhide HX).cell 0 rfl
      have x1 := (unhide HX).cell 1 rfl
      have x2 := (unhide HX).cell 2 rfl
      have y0 := (unhide HY).cell 0 rfl
      have y1 := (unhide HY).cell 1 rfl
      have y2 := (unhide HY).cell 2 rfl
      go_wp2_with fail
      refine (c76 a b c _).mono ?_
      rintro e u1 ⟨rfl, hb⟩
      (try clear x0 x1 x2 y0 y1 y2)
      replace HB := hide (below_tr (unhide HB) hb)
      replace HX := hide ((unhide HX).bel hb)
      replace HY := hide ((unhide HY).bel hb)
      clear hb
      have x0 := (unhide HX).cell 0 rfl
      have x1 := (unhide HX).cell 1 rfl
      have x2 := (unhide HX).cell 2 rfl
      have y0 := (unhide HY).cell 0 rfl
      have y1 := (unhide HY).cell 1 rfl
      have y2 := (unhide HY).cell 2 rfl
      go_wp2_with fail
      refine (c76 a' b' c' _).mono ?_
      rintro e u2 ⟨rfl, hb⟩
      (try clear x0 x1 x2 y0 y1 y2)
      replace HB := hide (below_tr (unhide HB) hb)
      replace HX := hide ((unhide HX).bel hb)
      replace HY := hide ((unhide HY).bel hb)
      clear hb
      have x0 := (unhide HX).cell 0 rfl
      have x1 := (unhide HX).cell 1 rfl
      have x2 := (unhide HX).cell 2 rfl
      have y0 := (unhide HY).cell 0 rfl
      have y1 := (unhide HY).cell 1 rfl
      have y2 := (unhide HY).cell 2 rfl
      go_wp2_with fail
      refine (c41 _).mono ?_
      rintro e w9 ⟨rfl, hww⟩
      have hww := hww.symm
      subst hww
      go_wp2_with fail
      go_ret
      exact ⟨rfl, unhide HB⟩
    have he := eqHedT
    have hg : Try.prog.eqGuardType Try.prog.depth 65 = false := by kernel_rfl
    by_cases h3 : a = a'
    case neg =>
      have hf := fork_3 (b := b) (c := c) (b' := b') (c' := c') h3
      rw [unhide HF] at hf
      subst hf
      have d3 : (a == a') = false := by rw [beq_eq_false_iff_ne]; exact h3
      have x0 := (unhide HX).cell 0 rfl
      have x1 := (unhide HX).cell 1 rfl
      have x2 := (unhide HX).cell 2 rfl
      have y0 := (unhide HY).cell 0 rfl
      have y1 := (unhide HY).cell 1 rfl
      have y2 := (unhide HY).cell 2 rfl
      go_wp2_with fail
      refine (c76 a b c _).mono ?_
      rintro e u1 ⟨rfl, hb⟩
      (try clear x0 x1 x2 y0 y1 y2)
      replace HB := hide (below_tr (unhide HB) hb)
      replace HX := hide ((unhide HX).bel hb)
      replace HY := hide ((unhide HY).bel hb)
      clear hb
      have x0 := (unhide HX).cell 0 rfl
      have x1 := (unhide HX).cell 1 rfl
      have x2 := (unhide HX).cell 2 rfl
      have y0 := (unhide HY).cell 0 rfl
      have y1 := (unhide HY).cell 1 rfl
      have y2 := (unhide HY).cell 2 rfl
      go_wp2_with fail
      refine (c76 a' b' c' _).mono ?_
      rintro e u2 ⟨rfl, hb⟩
      (try clear x0 x1 x2 y0 y1 y2)
      replace HB := hide (below_tr (unhide HB) hb)
      replace HX := hide ((unhide HX).bel hb)
      replace HY := hide ((unhide HY).bel hb)
      clear hb
      have x0 := (unhide HX).cell 0 rfl
      have x1 := (unhide HX).cell 1 rfl
      have x2 := (unhide HX).cell 2 rfl
      have y0 := (unhide HY).cell 0 rfl
      have y1 := (unhide HY).cell 1 rfl
      have y2 := (unhide HY).cell 2 rfl
      go_wp2_with fail
      refine (c41 _).mono ?_
      rintro e w9 ⟨rfl, hww⟩
      have hww := hww.symm
      subst hww
      go_wp2_with fail
      go_ret
      exact ⟨rfl, unhide HB⟩
    have d3 : (a == a') = true := by rw [beq_iff_eq]; exact h3
    have hf := fork_4 h1 h2 h3
    rw [unhide HF] at hf
    by_cases h4 : (a, b, c) = (a', b', c')
    case pos =>
      rw [decide_eq_true h4] at hf
      have hff : f = false := hf
      subst hff
      have hb4 : b = b' := by simp only [Prod.mk.injEq] at h4; exact h4.2.1
      have hc4 : c = c' := by simp only [Prod.mk.injEq] at h4; exact h4.2.2
      clear h4 hf
      subst h3 hb4 hc4
      have x0 := (unhide HX).cell 0 rfl
      have x1 := (unhide HX).cell 1 rfl
      have x2 := (unhide HX).cell 2 rfl
      have y0 := (unhide HY).cell 0 rfl
      have y1 := (unhide HY).cell 1 rfl
      have y2 := (unhide HY).cell 2 rfl
      go_wp2_with fail
      refine (c76 a b c _).mono ?_
      rintro e u1 ⟨rfl, hb⟩
      (try clear x0 x1 x2 y0 y1 y2)
      replace HB := hide (below_tr (unhide HB) hb)
      replace HX := hide ((unhide HX).bel hb)
      replace HY := hide ((unhide HY).bel hb)
      clear hb
      have x0 := (unhide HX).cell 0 rfl
      have x1 := (unhide HX).cell 1 rfl
      have x2 := (unhide HX).cell 2 rfl
      have y0 := (unhide HY).cell 0 rfl
      have y1 := (unhide HY).cell 1 rfl
      have y2 := (unhide HY).cell 2 rfl
      go_wp2_with fail
      refine (c76 a b c _).mono ?_
      rintro e u2 ⟨rfl, hb⟩
      (try clear x0 x1 x2 y0 y1 y2)
      replace HB := hide (below_tr (unhide HB) hb)
      replace HX := hide ((unhide HX).bel hb)
      replace HY := hide ((unhide HY).bel hb)
      clear hb
      have x0 := (unhide HX).cell 0 rfl
      have x1 := (unhide HX).cell 1 rfl
      have x2 := (unhide HX).cell 2 rfl
      have y0 := (unhide HY).cell 0 rfl
      have y1 := (unhide HY).cell 1 rfl
      have y2 := (unhide HY).cell 2 rfl
      go_wp2_with fail
      refine (c41 _).mono ?_
      rintro e w9 ⟨rfl, hww⟩
      have hww := hww.symm
      subst hww
      go_wp2_with fail
      go_ret
      exact ⟨rfl, unhide HB⟩
    rw [decide_eq_false h4] at hf
    have hff : f = true := hf
    subst hff
    have he4 : ∀ w : World, (Op.equalIn 10000 65 (.agg #[.int .i64 a, .int .i64 b, .int .i64 c]) (.agg #[.int .i64 a', .int .i64 b', .int .i64 c'])).run Try.prog w = .ok false w := fun w => by rw [eqHedT, decide_eq_false h4]
    clear he h3 h4
    clear hf
    have x0 := (unhide HX).cell 0 rfl
    have x1 := (unhide HX).cell 1 rfl
    have x2 := (unhide HX).cell 2 rfl
    have y0 := (unhide HY).cell 0 rfl
    have y1 := (unhide HY).cell 1 rfl
    have y2 := (unhide HY).cell 2 rfl
    go_wp2_with fail
    refine (c76 a b c _).mono ?_
    rintro e u1 ⟨rfl, hb⟩
    (try clear x0 x1 x2 y0 y1 y2)
    replace HB := hide (below_tr (unhide HB) hb)
    replace HX := hide ((unhide HX).bel hb)
    replace HY := hide ((unhide HY).bel hb)
    clear hb
    have x0 := (unhide HX).cell 0 rfl
    have x1 := (unhide HX).cell 1 rfl
    have x2 := (unhide HX).cell 2 rfl
    have y0 := (unhide HY).cell 0 rfl
    have y1 := (unhide HY).cell 1 rfl
    have y2 := (unhide HY).cell 2 rfl
    go_wp2_with fail
    refine (c76 a' b' c' _).mono ?_
    rintro e u2 ⟨rfl, hb⟩
    (try clear x0 x1 x2 y0 y1 y2)
    replace HB := hide (below_tr (unhide HB) hb)
    replace HX := hide ((unhide HX).bel hb)
    replace HY := hide ((unhide HY).bel hb)
    clear hb
    have x0 := (unhide HX).cell 0 rfl
    have x1 := (unhide HX).cell 1 rfl
    have x2 := (unhide HX).cell 2 rfl
    have y0 := (unhide HY).cell 0 rfl
    have y1 := (unhide HY).cell 1 rfl
    have y2 := (unhide HY).cell 2 rfl
    go_wp2_with fail
    refine (c41 _).mono ?_
    rintro e w9 ⟨rfl, hww⟩
    have hww := hww.symm
    subst hww
    go_wp2_with fail
    go_ret
    exact ⟨rfl, unhide HB⟩
end Go.Proofs.Ytimaidcjccakeaa
