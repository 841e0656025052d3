/-
  Texts of the proof, what it needs of them: Lawgh.
-/
import Derived.Deep.DeepCutAuto
import Derived.Test.YtmlbphmbffkdnaaGreatGh19
import Derived.Test.YtmlbphmbffkdnaaGreatGh25
import Derived.Test.YtmlbphmbffkdnaaGreatGh38
import Derived.Test.YtmlbphmbffkdnaaGreatGh39
import Derived.Test.YtmlbphmbffkdnaaGreatGh43
import Derived.Test.YtmlbphmbffkdnaaGreatGh44
import Derived.Test.YtmlbphmbffkdnaaGreatGh48
namespace Go.Proofs.YtmlbphmbffkdnaaGreat
open Go.RowKit
set_option linter.unusedVariables false
set_option maxRecDepth 100000

theorem sb_true_h {s l o : Int} {zs : List Int} {t who a c : Int} {d : Bool} {ps : List Int} (h : showB s l o zs t who a c d ps = true) : (1 ≤ who ∧ who ≤ 5) ∧ a = who ∧ d = false ∧ hasB zs t = false ∧ Tm.ownCheck o t (a, c, d) ps = true := by
  unfold showB at h
  simp only [Bool.and_eq_true, decide_eq_true_eq, Bool.not_eq_true'] at h
  exact ⟨h.2.1, h.2.2.1, h.2.2.2.1, h.2.2.2.2.1, h.2.2.2.2.2⟩
theorem fold_own {es : List Tm.Ent} (h : foldIs es = true) : Tm.ownOk (foldRows es) = true := by
  unfold foldIs at h
  rw [Option.isSome_iff_exists] at h
  obtain ⟨r, hr⟩ := h
  rw [(fold_some hr).1]
  exact ownFold_ok hr
theorem gat_bare {s l o : Int} (h : hedOk s l o = true) : gatOk s l o [] = true := by unfold gatOk; rw [h]; rfl
/-- who is told honestly goes through, if somebody has the ticket and nobody has entered with it -/
theorem honest_goes {s l o : Int} {rs : List Tm.Rw} {j : Nat} {a c : Int} {d : Bool} (hg : gatOk s l o [] = true) (ho : Tm.ownOk rs = true) (hr : o = ownRoot rs) (hj8 : j < 8) (hj : rs[j]? = some (a, c, d)) :
    showB s l o [] (j : Int) a a c d (ownProof rs (j : Int)) = (decide (0 < a) && !d) := by
  have h8 := leavesR_8 ho
  have hlo := leavesR_tre ho
  have hct : Tm.ownCheck o (j : Int) (a, c, d) (ownProof rs (j : Int)) = true := by
    rw [ownCheck_of (by omega), hr, ownRoot_of ho, ownProof_of ho, treProof_of ⟨hlo, by omega, by rw [h8]; omega⟩, Int.toNat_natCast]
    have h1 := check_prf hlo (i := j) (by rw [h8]; exact hj8)
    rw [h8, leavesR_at hj] at h1
    exact h1
  have hro := (Tm.ownOk_iff.1 ho).2 _ (List.mem_of_getElem? hj)
  have hb : decide (1 ≤ a ∧ a ≤ 5) = decide (0 < a) := by
    rcases Tm.rowOk_iff.1 hro with e | e
    · have : a = 0 := by have := congrArg Prod.fst e; simpa [Tm.noRow] using this
      subst this; rfl
    · dsimp only at e
      rw [decide_eq_true (by omega), decide_eq_true (by omega)]
  unfold showB
  rw [hg, hb, hct, decide_eq_true (rfl : a = a)]
  have h0 : hasB [] (j : Int) = false := rfl
  rw [h0]
  cases decide (0 < a) <;> cases d <;> rfl

set_option maxHeartbeats 8000000 in
theorem law4 (bs cs : List Int) (ao bo : Option Addr) (n cap m cap' : Nat) (w : World) (hn : bs.length = n) (hc : n ≤ cap) (hm : cap ≤ maxLen) (hB : Bytes w ao bs) (hn2 : cs.length = m) (hc2 : m ≤ cap') (hm2 : cap' ≤ maxLen) (hB2 : Bytes w bo cs) :
    Calls Tryz.prog 4 #[.slice ao n cap, .slice bo m cap'] w (Holds w) := by
  have HM := hide hm
  unfold maxLen at hm
  have HBY := hide hB
  have HN := hide hn
  have HB := hide (Below.refl w.heap.size w)
  have HM2 := hide hm2
  unfold maxLen at hm2
  have HBZ := hide hB2
  have HN2 := hide hn2
  clear hB hn hB2 hn2
  by_cases hbig : (1048576 : Int) < (n : Int)
  case pos =>
    go_enter Tryz.func4, Tryz.ntmps4
    go_wp2_with fail
    go_ret
    exact ⟨rfl, unhide HB⟩
  by_cases hbig2 : (1048576 : Int) < (m : Int)
  case pos =>
    go_enter Tryz.func4, Tryz.ntmps4
    go_wp2_with fail
    go_ret
    exact ⟨rfl, unhide HB⟩
  go_enter Tryz.func4, Tryz.ntmps4
  go_wp2_with fail
  refine (c14 bs ao n cap _ HN.out hc (unhide HM) (unhide HBY)).mono ?_
  rintro e w1 ⟨v, es, rfl, hle, ho, hb⟩
  obtain ⟨ae, ce, rfl, hce, -, -⟩ := ho.row
  have hrow := ho.rd rfl
  replace HB := hide (below_tr (unhide HB) hb)
  replace HBZ := hide ((unhide HBZ).bel hb)
  clear HBY
  have HE := hide (hrow)
  clear hb ho hrow
  go_wp2_with fail
  refine (c5 cs bo m cap' _ HN2.out hc2 (unhide HM2) (unhide HBZ)).mono ?_
  rintro e w2 ⟨s9, l9, o9, zs, ag, cg, t, who, a, c, d, ps, ap, np, capp, rfl, hzl, hcg, hzg, -, htb, hft, hq1, hq2, hq3, hrr, hb⟩
  replace HB := hide (below_tr (unhide HB) hb)
  replace HE := hide ((unhide HE).bel hb)
  clear HBZ
  have HP := hide (hrr)
  clear hb hrr
  have HQN := hide hq1
  have HFT := hide hft
  clear hq1 hft
  replace HB := hide (below_al (o := .cells #[.int .i64 s9, .int .i64 l9, .int .i64 o9, .slice ag zs.length cg] 27) (unhide HB))
  replace HE := hide ((unhide HE).bel (below_a (.cells #[.int .i64 s9, .int .i64 l9, .int .i64 o9, .slice ag zs.length cg] 27)))
  replace HP := hide ((unhide HP).bel (below_a (.cells #[.int .i64 s9, .int .i64 l9, .int .i64 o9, .slice ag zs.length cg] 27)))
  have HX9 := hide (box_new w2 [.int .i64 s9, .int .i64 l9, .int .i64 o9, .slice ag zs.length cg] 27 (by simp [Value.oneCell']))
  have x0 := (unhide HX9).cell 0 rfl
  have x1 := (unhide HX9).cell 1 rfl
  have x2 := (unhide HX9).cell 2 rfl
  have x3 := (unhide HX9).cell 3 rfl
  (try clear x0 x1 x2 x3)
  replace HB := hide (below_al (o := .cells #[.int .i64 a, .int .i64 c, .bool d] 29) (unhide HB))
  replace HE := hide ((unhide HE).bel (below_a (.cells #[.int .i64 a, .int .i64 c, .bool d] 29)))
  replace HP := hide ((unhide HP).bel (below_a (.cells #[.int .i64 a, .int .i64 c, .bool d] 29)))
  replace HX9 := hide ((unhide HX9).bel (below_a (.cells #[.int .i64 a, .int .i64 c, .bool d] 29)))
  have HH := hide (box_new (w2.alloc (.cells #[.int .i64 s9, .int .i64 l9, .int .i64 o9, .slice ag zs.length cg] 27)) [.int .i64 a, .int .i64 c, .bool d] 29 (by simp [Value.oneCell']))
  (try simp only [World.size_alloc] at HH)
  clear HX9
  have hh9 := (unhide HH).lt
  have h0 := (unhide HH).cell 0 rfl
  have h1 := (unhide HH).cell 1 rfl
  have h2 := (unhide HH).cell 2 rfl
  go_wp2_with fail
  obtain ⟨j, rfl⟩ := Int.eq_ofNat_of_zero_le htb.1
  have hj8 : j < 8 := by omega
  have HYES := hide (fun h => hed_yes (es := es) h)
  have HNO := hide (fun h => hed_no (es := es) h)
  have HOKK := hide (fun h => hedOk_of (es := es) h)
  have HOWN := hide (fun h => fold_own (es := es) h)
  generalize hs1 : hS es = s at *
  generalize hl1 : hL es = l at *
  generalize ho1 : hO es = o at *
  generalize hb1 : foldIs es = b1 at *
  generalize hr1 : foldRows es = rs at *
  have HHS := hide hs1
  have HHL := hide hl1
  have HHO := hide ho1
  have HHB1 := hide hb1
  have HHR1 := hide hr1
  clear hs1 hl1 ho1 hb1 hr1
  refine (c15 es ae es.length ce _ rfl hce (by omega) (unhide HE)).mono ?_
  rintro e w11 ⟨rfl, hb⟩
  rw [unhide HHS, unhide HHL, unhide HHO, unhide HHB1]
  (try clear h0 h1 h2)
  replace HB := hide (below_tr (unhide HB) hb)
  replace HE := hide ((unhide HE).bel hb)
  replace HP := hide ((unhide HP).bel hb)
  replace HH := hide ((unhide HH).bel hb)
  clear hb
  have h0 := (unhide HH).cell 0 rfl
  have h1 := (unhide HH).cell 1 rfl
  have h2 := (unhide HH).cell 2 rfl
  (try clear h0 h1 h2)
  replace HB := hide (below_al (o := .cells #[.int .i64 s, .int .i64 l, .int .i64 o] 24) (unhide HB))
  replace HE := hide ((unhide HE).bel (below_a (.cells #[.int .i64 s, .int .i64 l, .int .i64 o] 24)))
  replace HP := hide ((unhide HP).bel (below_a (.cells #[.int .i64 s, .int .i64 l, .int .i64 o] 24)))
  replace HH := hide ((unhide HH).bel (below_a (.cells #[.int .i64 s, .int .i64 l, .int .i64 o] 24)))
  have HX := hide (box_new w11 [.int .i64 s, .int .i64 l, .int .i64 o] 24 (by simp [Value.oneCell']))
  have h0 := (unhide HH).cell 0 rfl
  have h1 := (unhide HH).cell 1 rfl
  have h2 := (unhide HH).cell 2 rfl
  have x0 := (unhide HX).cell 0 rfl
  have x1 := (unhide HX).cell 1 rfl
  have x2 := (unhide HX).cell 2 rfl
  go_wp2_with fail
  refine (c16 es ae es.length ce _ rfl hce (by omega) (unhide HE)).mono ?_
  rintro e w12 ⟨rfl, hb⟩
  rw [unhide HHS, unhide HHL, unhide HHO, unhide HHB1]
  (try clear h0 h1 h2 x0 x1 x2)
  replace HB := hide (below_tr (unhide HB) hb)
  replace HE := hide ((unhide HE).bel hb)
  replace HP := hide ((unhide HP).bel hb)
  replace HH := hide ((unhide HH).bel hb)
  replace HX := hide ((unhide HX).bel hb)
  clear hb
  have h0 := (unhide HH).cell 0 rfl
  have h1 := (unhide HH).cell 1 rfl
  have h2 := (unhide HH).cell 2 rfl
  have x0 := (unhide HX).cell 0 rfl
  have x1 := (unhide HX).cell 1 rfl
  have x2 := (unhide HX).cell 2 rfl
  (try clear h0 h1 h2 x0 x1 x2)
  replace HB := hide (below_al (o := .cells #[.int .i64 s, .int .i64 l, .int .i64 o] 24) (unhide HB))
  replace HE := hide ((unhide HE).bel (below_a (.cells #[.int .i64 s, .int .i64 l, .int .i64 o] 24)))
  replace HP := hide ((unhide HP).bel (below_a (.cells #[.int .i64 s, .int .i64 l, .int .i64 o] 24)))
  replace HH := hide ((unhide HH).bel (below_a (.cells #[.int .i64 s, .int .i64 l, .int .i64 o] 24)))
  replace HX := hide ((unhide HX).bel (below_a (.cells #[.int .i64 s, .int .i64 l, .int .i64 o] 24)))
  have HY := hide (box_new w12 [.int .i64 s, .int .i64 l, .int .i64 o] 24 (by simp [Value.oneCell']))
  have h0 := (unhide HH).cell 0 rfl
  have h1 := (unhide HH).cell 1 rfl
  have h2 := (unhide HH).cell 2 rfl
  have x0 := (unhide HX).cell 0 rfl
  have x1 := (unhide HX).cell 1 rfl
  have x2 := (unhide HX).cell 2 rfl
  have y0 := (unhide HY).cell 0 rfl
  have y1 := (unhide HY).cell 1 rfl
  have y2 := (unhide HY).cell 2 rfl
  cases b1
  case false =>
    (try clear h0 h1 h2 x0 x1 x2 y0 y1 y2)
    obtain ⟨z1, z2, z3⟩ := unhide HNO rfl
    subst z1
    subst z2
    subst z3
    have h0 := (unhide HH).cell 0 rfl
    have h1 := (unhide HH).cell 1 rfl
    have h2 := (unhide HH).cell 2 rfl
    have x0 := (unhide HX).cell 0 rfl
    have x1 := (unhide HX).cell 1 rfl
    have x2 := (unhide HX).cell 2 rfl
    have y0 := (unhide HY).cell 0 rfl
    have y1 := (unhide HY).cell 1 rfl
    have y2 := (unhide HY).cell 2 rfl
    go_wp2_with fail
    refine (c10 _).mono ?_
    rintro e w13 ⟨rfl, hww⟩
    have hww := hww.symm
    subst hww
    go_wp2_with fail
    go_ret
    exact ⟨rfl, unhide HB⟩
  have hgb := gat_bare (unhide HOKK rfl)
  have how := unhide HOWN rfl
  obtain ⟨-, -, hro⟩ := unhide HYES rfl
  have HGB := hide hgb
  have HOW := hide how
  have HRO := hide hro
  clear hgb how hro
  go_wp2_with fail
  clear HY
  refine (c17 es ae es.length ce _ rfl (by omega) (unhide HE)).mono ?_
  rintro e w13 ⟨v, rfl, ho, hb⟩
  rw [unhide HHR1] at ho
  rw [unhide HHB1]
  obtain ⟨ar, cr, rfl, hcr, -, -⟩ := ho.row
  have hrow := ho.rd rfl
  (try clear h0 h1 h2 x0 x1 x2)
  replace HB := hide (below_tr (unhide HB) hb)
  replace HP := hide ((unhide HP).bel hb)
  replace HH := hide ((unhide HH).bel hb)
  replace HX := hide ((unhide HX).bel hb)
  clear HE
  have HR := hide (hrow)
  clear hb ho hrow
  have h0 := (unhide HH).cell 0 rfl
  have h1 := (unhide HH).cell 1 rfl
  have h2 := (unhide HH).cell 2 rfl
  have x0 := (unhide HX).cell 0 rfl
  have x1 := (unhide HX).cell 1 rfl
  have x2 := (unhide HX).cell 2 rfl
  have h8 : rs.length = 8 := (Tm.ownOk_iff.1 (unhide HOW)).1
  have HN8 := hide h8
  rw [h8] at hcr ⊢
  obtain ⟨ra, rc, rd, hj⟩ := r_at (show j < rs.length by omega)
  have HJ := hide hj
  have HFN : Hid (FitR (ra, rc, rd)) := (unhide HR).1 _ (List.mem_of_getElem? hj)
  obtain ⟨br, offr, rfl, -⟩ := (unhide HR).2 (by intro e; rw [e] at h8; simp at h8)
  clear h8
  obtain ⟨e0, e1, e2⟩ := (unhide HR).at hj
  have hj9 : (j : Int) < 8 := by omega
  have hbr := World.block_lt_of_cell? _ _ e0
  dsimp only at hbr
  have hbrn : ¬ br = w13.heap.size := by omega
  obtain ⟨f0, f1, f2⟩ := ((unhide HR).bel (below_a (.cells #[.int .i64 s, .int .i64 l, .int .i64 o, .slice none 0 0] 27))).at hj
  clear hj
  go_wp2_with fail
  clear e0 e1 e2 f0 f1 f2
  (try clear h0 h1 h2 x0 x1 x2)
  (try clear h0 h1 h2 x0 x1 x2)
  replace HB := hide (below_al (o := .cells #[.int .i64 s, .int .i64 l, .int .i64 o, .slice none 0 0] 27) (unhide HB))
  replace HP := hide ((unhide HP).bel (below_a (.cells #[.int .i64 s, .int .i64 l, .int .i64 o, .slice none 0 0] 27)))
  replace HH := hide ((unhide HH).bel (below_a (.cells #[.int .i64 s, .int .i64 l, .int .i64 o, .slice none 0 0] 27)))
  replace HX := hide ((unhide HX).bel (below_a (.cells #[.int .i64 s, .int .i64 l, .int .i64 o, .slice none 0 0] 27)))
  replace HR := hide ((unhide HR).bel (below_a (.cells #[.int .i64 s, .int .i64 l, .int .i64 o, .slice none 0 0] 27)))
  have HG := hide (box_new w13 [.int .i64 s, .int .i64 l, .int .i64 o, .slice none 0 0] 27 (by simp [Value.oneCell']))
  have h0 := (unhide HH).cell 0 rfl
  have h1 := (unhide HH).cell 1 rfl
  have h2 := (unhide HH).cell 2 rfl
  have x0 := (unhide HX).cell 0 rfl
  have x1 := (unhide HX).cell 1 rfl
  have x2 := (unhide HX).cell 2 rfl
  have g0 := (unhide HG).cell 0 rfl
  have g1 := (unhide HG).cell 1 rfl
  have g2 := (unhide HG).cell 2 rfl
  have g3 := (unhide HG).cell 3 rfl
  (try clear h0 h1 h2 x0 x1 x2 g0 g1 g2 g3)
  replace HB := hide (below_al (o := .cells #[.int .i64 ra, .int .i64 rc, .bool rd] 29) (unhide HB))
  replace HP := hide ((unhide HP).bel (below_a (.cells #[.int .i64 ra, .int .i64 rc, .bool rd] 29)))
  replace HH := hide ((unhide HH).bel (below_a (.cells #[.int .i64 ra, .int .i64 rc, .bool rd] 29)))
  replace HX := hide ((unhide HX).bel (below_a (.cells #[.int .i64 ra, .int .i64 rc, .bool rd] 29)))
  replace HR := hide ((unhide HR).bel (below_a (.cells #[.int .i64 ra, .int .i64 rc, .bool rd] 29)))
  replace HG := hide ((unhide HG).bel (below_a (.cells #[.int .i64 ra, .int .i64 rc, .bool rd] 29)))
  have HN9 := hide (box_new (w13.alloc (.cells #[.int .i64 s, .int .i64 l, .int .i64 o, .slice none 0 0] 27)) [.int .i64 ra, .int .i64 rc, .bool rd] 29 (by simp [Value.oneCell']))
  (try simp only [World.size_alloc] at HN9)
  have hn9 := (unhide HN9).lt
  generalize (w13.alloc (.cells #[.int .i64 s, .int .i64 l, .int .i64 o, .slice none 0 0] 27)).alloc (.cells #[.int .i64 ra, .int .i64 rc, .bool rd] 29) = W14 at *
  obtain ⟨pq, HPQ⟩ : ∃ q, Hid (ownProof rs (j : Int) = q) := ⟨_, rfl⟩
  have hpq6 : pq.length ≤ 6 := by rw [← unhide HPQ]; exact ownProof_len _ _
  have hgoes := honest_goes (unhide HGB) (unhide HOW) (unhide HRO) hj8 (unhide HJ)
  rw [unhide HPQ] at hgoes
  obtain ⟨bb, hbb9⟩ : ∃ q, q = (decide (0 < ra) && !rd) := ⟨_, rfl⟩
  rw [← hbb9] at hgoes
  have HBB9 := hide hbb9
  clear hbb9
  obtain ⟨⟨S, Lh, O⟩, HGH⟩ : ∃ q, Hid (showH s l o [] = q) := ⟨_, rfl⟩
  obtain ⟨ZS, HGD⟩ : ∃ q, Hid (showD s l o [] (j : Int) ra ra rc rd pq = q) := ⟨_, rfl⟩
  have HGO := hide hgoes
  clear hgoes
  have HBW := hide (unhide HB)
  (try clear h0 h1 h2 x0 x1 x2 g0 g1 g2 g3 n0 n1 n2)
  refine wp_region_W (fun w' => Below W14.heap.size W14 w') (by kernel_rfl) (below_drew W14) (fun hHeld => ?_)
  refine tkW 0 (some 80) (v := ?_) ?_ ?_
  rotate_left
  · intro w hSw
    have hT := (unhide HG).below hSw; have g0 := hT.cell 0 rfl; have g1 := hT.cell 1 rfl; have g2 := hT.cell 2 rfl; have g3 := hT.cell 3 rfl
    first | (go_simp; done) | (go_simp; with_reducible rfl) | with_reducible rfl | rfl
  try simp only [Act.put, List.setIfInBounds_toArray, List.set_cons_zero, List.set_cons_succ]
  refine tkW 1 (some 81) (v := ?_) ?_ ?_
  rotate_left
  · intro w hSw
    first | (go_simp; done) | (go_simp; with_reducible rfl) | with_reducible rfl | rfl
  try simp only [Act.put, List.setIfInBounds_toArray, List.set_cons_zero, List.set_cons_succ]
  refine tkW 2 (some 82) (v := ?_) ?_ ?_
  rotate_left
  · intro w hSw
    first | (go_simp; done) | (go_simp; with_reducible rfl) | with_reducible rfl | rfl
  try simp only [Act.put, List.setIfInBounds_toArray, List.set_cons_zero, List.set_cons_succ]
  refine tkW 3 (some 83) (v := ?_) ?_ ?_
  rotate_left
  · intro w hSw
    have hT := (unhide HN9).below hSw; have n0 := hT.cell 0 rfl; have n1 := hT.cell 1 rfl; have n2 := hT.cell 2 rfl
    first | (go_simp; done) | (go_simp; with_reducible rfl) | with_reducible rfl | rfl
  try simp only [Act.put, List.setIfInBounds_toArray, List.set_cons_zero, List.set_cons_succ]
  refine tkW 4 (some 84) (v := ?_) ?_ ?_
  rotate_left
  · intro w hSw
    have hT := (unhide HN9).below hSw; have n0 := hT.cell 0 rfl; have n1 := hT.cell 1 rfl; have n2 := hT.cell 2 rfl
    first | (go_simp; done) | (go_simp; with_reducible rfl) | with_reducible rfl | rfl
  try simp only [Act.put, List.setIfInBounds_toArray, List.set_cons_zero, List.set_cons_succ]
  refine tkW 5 (some 85) (v := ?_) ?_ ?_
  rotate_left
  · intro w hSw
    first | (go_simp; done) | (go_simp; with_reducible rfl) | with_reducible rfl | rfl
  try simp only [Act.put, List.setIfInBounds_toArray, List.set_cons_zero, List.set_cons_succ]
  refine tkW 6 (some 86) (v := ?_) ?_ ?_
  rotate_left
  · intro w hSw
    first | (go_simp; done) | (go_simp; with_reducible rfl) | with_reducible rfl | rfl
  try simp only [Act.put, List.setIfInBounds_toArray, List.set_cons_zero, List.set_cons_succ]
  have HD := below_drew W14
  generalize W14.drew = V0 at *
  refine WA.inv (fun aa listed a w' => ∃ (f7 f8 f12 : Bool) (t19 t79 t87 t88 t89 t90 : Value), listed = #[true, true, true, true, true, true, true, f7, f8, f8, f8, f8, f12, false, false] ∧ a = ((((((aa).put (some 19) t19).put (some 79) t79).put (some 87) t87).put (some 88) t88).put (some 89) t89).put (some 90) t90 ∧ Below W14.heap.size W14 w' ∧ (f7 = true → ∃ a c, t87 = .slice a pq.length c ∧ pq.length ≤ c ∧ Own w' W14.heap.size (.slice a pq.length c) pq) ∧ (f8 = true → ∃ a c, t88 = .tuple #[gatV S Lh O (.slice a ZS.length c), .bool bb] ∧ t79 = .tuple #[gatV S Lh O (.slice a ZS.length c), .bool bb] ∧ t89 = gatV S Lh O (.slice a ZS.length c) ∧ t90 = .bool bb) ∧ (f12 = true → ∃ g, t19 = .pointer (some ⟨g, 0, none⟩) ∧ w'.ownsRow W14.heap.size 27 4 (.slice (some ⟨g, 0, none⟩) 1 1) 1 [.int .i64 0, .int .i64 0, .int .i64 0, .slice none 0 0])) [7, 8, 12] ?_ ?_ ?_ ?_
  · refine ⟨false, false, false, undef, undef, undef, undef, undef, undef, rfl, ?_, HD, (fun h => absurd h (by simp)), (fun h => absurd h (by simp)), (fun h => absurd h (by simp))⟩
    simp only [Act.put, List.setIfInBounds_toArray, List.set_cons_zero, List.set_cons_succ]
  · rintro listed a w' ⟨f7, f8, f12, t19, t79, t87, t88, t89, t90, rfl, ha, hb, h7, h8, h12⟩
    refine ⟨rfl, ?_⟩
    clear ha hb h7 h8 h12
    cases f7 <;> cases f8 <;> cases f12 <;> kernel_rfl
  · skip
    refine StepsW.cons (i := 7) (o := { dst := some 87, op := _, type := _, pos := _, after := _, guard := _ }) rfl ?_ ?_
    · as_aux_lemma =>
      rintro listed a w' ⟨f7, f8, f12, t19, t79, t87, t88, t89, t90, rfl, ha, hb, h7, h8, h12⟩ hun hd ih K' hK
      simp only [Act.put, List.setIfInBounds_toArray, List.set_cons_zero, List.set_cons_succ] at ha
      subst ha
      obtain rfl : f7 = false := hun
      replace h7 := hide h7
      replace h8 := hide h8
      replace h12 := hide h12
      go_simp
      go_at_call 18
      refine (c18 rs (j : Int) (some ⟨br, offr, none⟩) 8 cr _ (unhide HN8) (by omega) ((unhide HR).bel hb)).mono ?_
      rintro e w2 ⟨v, rfl, ho, hb2⟩
      rw [unhide HPQ] at ho
      obtain ⟨a1, c1, rfl, hl1, -, -⟩ := ho.row
      have hbb := below_then hb hb2
      try go_wp2_with fail
      refine hK.out _ _ hbb (fun hS => ?_)
      try simp only [List.setIfInBounds_toArray, List.set_cons_zero, List.set_cons_succ]
      refine ih _ _ _ ⟨true, f8, f12, t19, t79, (.slice a1 pq.length c1), t88, t89, t90, rfl, (by simp only [Act.put, List.setIfInBounds_toArray, List.set_cons_zero, List.set_cons_succ]), hbb, (fun _ => ⟨a1, c1, rfl, hl1, ho.mono hb.size⟩), (fun hh => (unhide h8 hh)), (fun hh => (by obtain ⟨g, e, r⟩ := (unhide h12 hh); exact ⟨g, e, owns_below r hb2⟩))⟩ ?_
      clear ih hd hb hbb hK h7 h8 h12
      cases f8 <;> cases f12 <;> decide
    refine StepsW.cons (i := 8) (o := { dst := some 88, op := _, type := _, pos := _, after := _, guard := _ }) rfl ?_ ?_
    · as_aux_lemma =>
      rintro listed a w' ⟨f7, f8, f12, t19, t79, t87, t88, t89, t90, rfl, ha, hb, h7, h8, h12⟩ hun hd ih K' hK
      simp only [Act.put, List.setIfInBounds_toArray, List.set_cons_zero, List.set_cons_succ] at ha
      subst ha
      obtain rfl : f8 = false := hun
      obtain rfl : f7 = true := by cases f7; exact Bool.noConfusion (show false = true from hd); rfl
      obtain ⟨a1, c1, rfl, hl1, r1⟩ := h7 rfl
      clear h7
      replace h8 := hide h8
      replace h12 := hide h12
      go_simp
      go_at_call 6
      refine (c6 s l o [] none 0 0 (j : Int) ra ra rc rd pq a1 pq.length c1 _ rfl (by omega) (fun _ => rfl) (Row.nil _ _) (by omega) (unhide HFN) rfl hl1 (by omega) (own_rowI r1)).mono ?_
      rintro e w2 ⟨v, rfl, ho, hb2⟩
      rw [unhide HGD] at ho
      rw [unhide HGH, unhide HGO]
      dsimp only
      obtain ⟨a3, c3, rfl⟩ := live_form ho.2
      have hbb := below_then hb hb2
      try go_wp2_with fail
      cases f12
      case false =>
        refine hK.out _ _ hbb (fun hS => ?_)
        try simp only [List.setIfInBounds_toArray, List.set_cons_zero, List.set_cons_succ]
        refine tkW 9 (some 79) (v := ?_) ?_ ?_
        rotate_left
        · intro w hSw
          first | (go_simp; done) | (go_simp; with_reducible rfl) | with_reducible rfl | rfl
        try simp only [Act.put, List.setIfInBounds_toArray, List.set_cons_zero, List.set_cons_succ]
        refine tkW 10 (some 89) (v := ?_) ?_ ?_
        rotate_left
        · intro w hSw
          first | (go_simp; done) | (go_simp; with_reducible rfl) | with_reducible rfl | rfl
        try simp only [Act.put, List.setIfInBounds_toArray, List.set_cons_zero, List.set_cons_succ]
        refine tkW 11 (some 90) (v := ?_) ?_ ?_
        rotate_left
        · intro w hSw
          first | (go_simp; done) | (go_simp; with_reducible rfl) | with_reducible rfl | rfl
        try simp only [Act.put, List.setIfInBounds_toArray, List.set_cons_zero, List.set_cons_succ]
        refine ih _ _ _ ⟨true, true, false, t19, (.tuple #[gatV S Lh O (.slice a3 ZS.length c3), .bool bb]), (.slice a1 pq.length c1), (.tuple #[gatV S Lh O (.slice a3 ZS.length c3), .bool bb]), (gatV S Lh O (.slice a3 ZS.length c3)), (.bool bb), rfl, (by simp only [Act.put, List.setIfInBounds_toArray, List.set_cons_zero, List.set_cons_succ]), hbb, (fun _ => ⟨a1, c1, rfl, hl1, r1.bel hb2⟩), (fun _ => ⟨a3, c3, rfl, rfl, rfl, rfl⟩), (fun hh => absurd hh (by simp))⟩ ?_
        clear ih hd hb hbb hK h8 h12
        decide
      case true =>
        refine hK.out _ _ hbb (fun hS => ?_)
        try simp only [List.setIfInBounds_toArray, List.set_cons_zero, List.set_cons_succ]
        refine tkW 9 (some 79) (v := ?_) ?_ ?_
        rotate_left
        · intro w hSw
          first | (go_simp; done) | (go_simp; with_reducible rfl) | with_reducible rfl | rfl
        try simp only [Act.put, List.setIfInBounds_toArray, List.set_cons_zero, List.set_cons_succ]
        refine tkW 10 (some 89) (v := ?_) ?_ ?_
        rotate_left
        · intro w hSw
          first | (go_simp; done) | (go_simp; with_reducible rfl) | with_reducible rfl | rfl
        try simp only [Act.put, List.setIfInBounds_toArray, List.set_cons_zero, List.set_cons_succ]
        refine tkW 11 (some 90) (v := ?_) ?_ ?_
        rotate_left
        · intro w hSw
          first | (go_simp; done) | (go_simp; with_reducible rfl) | with_reducible rfl | rfl
        try simp only [Act.put, List.setIfInBounds_toArray, List.set_cons_zero, List.set_cons_succ]
        refine ih _ _ _ ⟨true, true, true, t19, (.tuple #[gatV S Lh O (.slice a3 ZS.length c3), .bool bb]), (.slice a1 pq.length c1), (.tuple #[gatV S Lh O (.slice a3 ZS.length c3), .bool bb]), (gatV S Lh O (.slice a3 ZS.length c3)), (.bool bb), rfl, (by simp only [Act.put, List.setIfInBounds_toArray, List.set_cons_zero, List.set_cons_succ]), hbb, (fun _ => ⟨a1, c1, rfl, hl1, r1.bel hb2⟩), (fun _ => ⟨a3, c3, rfl, rfl, rfl, rfl⟩), (fun hh => (by obtain ⟨g, e, r⟩ := (unhide h12 rfl); exact ⟨g, e, owns_below r hb2⟩))⟩ ?_
        clear ih hd hb hbb hK h8 h12
        decide
    refine StepsW.cons (i := 12) (o := { dst := some 19, op := _, type := _, pos := _, after := _, guard := _ }) rfl ?_ ?_
    · as_aux_lemma =>
      rintro listed a w' ⟨f7, f8, f12, t19, t79, t87, t88, t89, t90, rfl, ha, hb, h7, h8, h12⟩ hun hd ih K' hK
      simp only [Act.put, List.setIfInBounds_toArray, List.set_cons_zero, List.set_cons_succ] at ha
      subst ha
      obtain rfl : f12 = false := hun
      replace h7 := hide h7
      replace h8 := hide h8
      replace h12 := hide h12
      go_simp
      have hb2 : Below w'.heap.size w' (w'.alloc (.cells #[.int .i64 0, .int .i64 0, .int .i64 0, .slice none 0 0] 27)) := below_a _
      have hnew : ∃ g, (Value.pointer (some ⟨w'.heap.size, 0, none⟩)) = .pointer (some ⟨g, 0, none⟩) ∧ (w'.alloc (.cells #[.int .i64 0, .int .i64 0, .int .i64 0, .slice none 0 0] 27)).ownsRow W14.heap.size 27 4 (.slice (some ⟨g, 0, none⟩) 1 1) 1 [.int .i64 0, .int .i64 0, .int .i64 0, .slice none 0 0] := ⟨_, rfl, World.ownsRow_lit w' #[.int .i64 0, .int .i64 0, .int .i64 0, .slice none 0 0] 1 hb.size (by decide) rfl⟩
      generalize (Value.pointer (some ⟨w'.heap.size, 0, none⟩)) = tn at *
      generalize (w'.alloc (.cells #[.int .i64 0, .int .i64 0, .int .i64 0, .slice none 0 0] 27)) = w2 at *
      have hbb := below_then hb hb2
      refine hK.out _ _ hbb (fun hS => ?_)
      try simp only [List.setIfInBounds_toArray, List.set_cons_zero, List.set_cons_succ]
      refine ih _ _ _ ⟨f7, f8, true, tn, t79, t87, t88, t89, t90, rfl, (by simp only [Act.put, List.setIfInBounds_toArray, List.set_cons_zero, List.set_cons_succ]), hbb, (fun hh => (by obtain ⟨a, c, e, h1, r⟩ := (unhide h7 hh); exact ⟨a, c, e, h1, r.bel hb2⟩)), (fun hh => (unhide h8 hh)), (fun _ => hnew)⟩ ?_
      clear ih hd hb hbb hK h7 h8 h12
      cases f7 <;> cases f8 <;> decide
    exact StepsW.nil
  rintro listed a w' ⟨f7, f8, f12, t19, t79, t87, t88, t89, t90, rfl, ha, hb, h7, h8, h12⟩ hall
  simp only [Act.put, List.setIfInBounds_toArray, List.set_cons_zero, List.set_cons_succ] at ha
  subst ha
  obtain rfl : f7 = true := hall 7 (by simp)
  obtain rfl : f8 = true := hall 8 (by simp)
  obtain rfl : f12 = true := hall 12 (by simp)
  obtain ⟨a1, c1, rfl, hl1, r1⟩ := h7 rfl
  obtain ⟨a3, c3, rfl, rfl, rfl, rfl⟩ := h8 rfl
  obtain ⟨g4, rfl, r4⟩ := h12 rfl
  clear hall h7 h8 h12
  have hg4 : W14.heap.size ≤ g4 := (r4.lt g4 rfl).1
  have q4 := boxRow r4
  have y0 := q4.cell 0 rfl
  have y0f := q4.frozen 0 rfl
  have y1 := q4.cell 1 rfl
  have y1f := q4.frozen 1 rfl
  have y2 := q4.cell 2 rfl
  have y2f := q4.frozen 2 rfl
  have y3 := q4.cell 3 rfl
  have y3f := q4.frozen 3 rfl
  refine oneW 13 (o := { dst := none, op := _, type := _, pos := _, after := _, guard := _ }) (fun K hK => ?_)
  clear r1 r4 q4 hHeld
  go_simp
  have hbS := (below_sc (p := ⟨g4, 3, none⟩) (v := .slice a3 ZS.length c3) (below_sc (p := ⟨g4, 2, none⟩) (v := .int .i64 O) (below_sc (p := ⟨g4, 1, none⟩) (v := .int .i64 Lh) (below_sc (p := ⟨g4, 0, none⟩) (v := .int .i64 S) hb (by dsimp only; omega)) (by dsimp only; omega)) (by dsimp only; omega)) (by dsimp only; omega))
  refine hK.out _ _ hbS (fun hS3 => ?_)
  clear hK K hS3
  try simp only [List.setIfInBounds_toArray, List.set_cons_zero, List.set_cons_succ]
  (try clear y0 y1 y2 y3 y0f y1f y2f y3f)
  replace HB := hide (below_tr (unhide HB) hbS)
  replace HP := hide ((unhide HP).bel hbS)
  replace HH := hide ((unhide HH).bel hbS)
  replace HX := hide ((unhide HX).bel hbS)
  replace HR := hide ((unhide HR).bel hbS)
  replace HG := hide ((unhide HG).bel hbS)
  replace HN9 := hide ((unhide HN9).bel hbS)
  clear hb
  refine tkW 14 (some 20) (v := ?_) ?_ ?_
  rotate_left
  · intro w hSw
    first | (go_simp; done) | (go_simp; with_reducible rfl) | with_reducible rfl | rfl
  try simp only [Act.put, List.setIfInBounds_toArray, List.set_cons_zero, List.set_cons_succ]
  refine doneW ?_
  clear hbS
  generalize ((((w').setCell ⟨g4, 0, none⟩ (.int .i64 S)).setCell ⟨g4, 1, none⟩ (.int .i64 Lh)).setCell ⟨g4, 2, none⟩ (.int .i64 O)).setCell ⟨g4, 3, none⟩ (.slice a3 ZS.length c3) = W15 at *
  have hbd := unhide HBB9
  clear HX
  go_upto_region 15 with fail
  go_cut [100] (fun s100 wx => s100 = .bool false ∧ Below w.heap.size w wx ∧ Row wx ap ps ∧ Box wx (w2.heap.size + 1) [.int .i64 a, .int .i64 c, .bool d] ∧ RRow wx (some ⟨br, offr, none⟩) rs ∧ Box wx w13.heap.size [.int .i64 s, .int .i64 l, .int .i64 o, .slice none 0 0] ∧ Box wx (w13.heap.size + 1) [.int .i64 ra, .int .i64 rc, .bool rd])
  case first =>
    cases rd
    case false =>
      have h0 := (unhide HH).cell 0 rfl
      have h1 := (unhide HH).cell 1 rfl
      have h2 := (unhide HH).cell 2 rfl
      have g0 := (unhide HG).cell 0 rfl
      have g1 := (unhide HG).cell 1 rfl
      have g2 := (unhide HG).cell 2 rfl
      have g3 := (unhide HG).cell 3 rfl
      have n0 := (unhide HN9).cell 0 rfl
      have n1 := (unhide HN9).cell 1 rfl
      have n2 := (unhide HN9).cell 2 rfl
      by_cases hra : 0 < ra
      case neg =>
        have hbv : bb = false := by rw [hbd]; simp [hra]
        clear hbd
        subst hbv
        go_wp2_with fail
        (try clear h0 h1 h2 g0 g1 g2 g3 n0 n1 n2)
        go_meet
        exact ⟨rfl, unhide HB, unhide HP, unhide HH, unhide HR, unhide HG, unhide HN9⟩
      case pos =>
        have hbv : bb = true := by rw [hbd]; simp [hra]
        clear hbd
        subst hbv
        go_wp2_with fail
        (try clear h0 h1 h2 g0 g1 g2 g3 n0 n1 n2)
        go_meet
        exact ⟨rfl, unhide HB, unhide HP, unhide HH, unhide HR, unhide HG, unhide HN9⟩
    case true =>
      have h0 := (unhide HH).cell 0 rfl
      have h1 := (unhide HH).cell 1 rfl
      have h2 := (unhide HH).cell 2 rfl
      have g0 := (unhide HG).cell 0 rfl
      have g1 := (unhide HG).cell 1 rfl
      have g2 := (unhide HG).cell 2 rfl
      have g3 := (unhide HG).cell 3 rfl
      have n0 := (unhide HN9).cell 0 rfl
      have n1 := (unhide HN9).cell 1 rfl
      have n2 := (unhide HN9).cell 2 rfl
      by_cases hra : 0 < ra
      case neg =>
        have hbv : bb = false := by rw [hbd]; simp [hra]
        clear hbd
        subst hbv
        go_wp2_with fail
        (try clear h0 h1 h2 g0 g1 g2 g3 n0 n1 n2)
        go_meet
        exact ⟨rfl, unhide HB, unhide HP, unhide HH, unhide HR, unhide HG, unhide HN9⟩
      case pos =>
        have hbv : bb = false := by rw [hbd]; simp [hra]
        clear hbd
        subst hbv
        go_wp2_with fail
        (try clear h0 h1 h2 g0 g1 g2 g3 n0 n1 n2)
        go_meet
        exact ⟨rfl, unhide HB, unhide HP, unhide HH, unhide HR, unhide HG, unhide HN9⟩
  (try clear h0 h1 h2 g0 g1 g2 g3 n0 n1 n2)
  case rest =>
    obtain ⟨rfl, fHB, fHP, fHH, fHR, fHG, fHN9⟩ := hcut
    obtain ⟨W16, hWc⟩ : ∃ x, x = wc := ⟨_, rfl⟩
    subst hWc
    clear HB HP HH HR HG HN9
    have HB := hide fHB
    have HP := hide fHP
    have HH := hide fHH
    have HR := hide fHR
    have HG := hide fHG
    have HN9 := hide fHN9
    clear fHB fHP fHH fHR fHG fHN9
    clear hbd
    have h0 := (unhide HH).cell 0 rfl
    have h1 := (unhide HH).cell 1 rfl
    have h2 := (unhide HH).cell 2 rfl
    have g0 := (unhide HG).cell 0 rfl
    have g1 := (unhide HG).cell 1 rfl
    have g2 := (unhide HG).cell 2 rfl
    have g3 := (unhide HG).cell 3 rfl
    have n0 := (unhide HN9).cell 0 rfl
    have n1 := (unhide HN9).cell 1 rfl
    have n2 := (unhide HN9).cell 2 rfl
    go_wp2_with fail
    generalize hsb : showB s l o [] (j : Int) who a c d ps = b2 at *
    have HSB := hide hsb
    clear hsb
    obtain ⟨⟨S2, L2, O2⟩, HGH2⟩ : ∃ q, Hid (showH s l o [] = q) := ⟨_, rfl⟩
    obtain ⟨ZS2, HGD2⟩ : ∃ q, Hid (showD s l o [] (j : Int) who a c d ps = q) := ⟨_, rfl⟩
    refine (c6 s l o [] none 0 0 (j : Int) who a c d ps ap np capp _ rfl (by omega) (fun _ => rfl) (Row.nil _ _) (by omega) (unhide HFT) (unhide HQN) hq2 (by omega) (unhide HP)).mono ?_
    rintro e w21 ⟨v, rfl, ho, hb⟩
    rw [unhide HGD2] at ho
    rw [unhide HGH2, unhide HSB]
    dsimp only
    obtain ⟨a5, c5, rfl⟩ := live_form ho.2
    clear ho
    (try clear h0 h1 h2 g0 g1 g2 g3 n0 n1 n2)
    replace HB := hide (below_tr (unhide HB) hb)
    replace HP := hide ((unhide HP).bel hb)
    replace HH := hide ((unhide HH).bel hb)
    replace HR := hide ((unhide HR).bel hb)
    replace HG := hide ((unhide HG).bel hb)
    replace HN9 := hide ((unhide HN9).bel hb)
    clear hb
    have h0 := (unhide HH).cell 0 rfl
    have h1 := (unhide HH).cell 1 rfl
    have h2 := (unhide HH).cell 2 rfl
    have g0 := (unhide HG).cell 0 rfl
    have g1 := (unhide HG).cell 1 rfl
    have g2 := (unhide HG).cell 2 rfl
    have g3 := (unhide HG).cell 3 rfl
    have n0 := (unhide HN9).cell 0 rfl
    have n1 := (unhide HN9).cell 1 rfl
    have n2 := (unhide HN9).cell 2 rfl
    (try clear h0 h1 h2 g0 g1 g2 g3 n0 n1 n2)
    replace HB := hide (below_al (o := .cells #[.int .i64 S2, .int .i64 L2, .int .i64 O2, .slice a5 ZS2.length c5] 27) (unhide HB))
    replace HP := hide ((unhide HP).bel (below_a (.cells #[.int .i64 S2, .int .i64 L2, .int .i64 O2, .slice a5 ZS2.length c5] 27)))
    replace HH := hide ((unhide HH).bel (below_a (.cells #[.int .i64 S2, .int .i64 L2, .int .i64 O2, .slice a5 ZS2.length c5] 27)))
    replace HR := hide ((unhide HR).bel (below_a (.cells #[.int .i64 S2, .int .i64 L2, .int .i64 O2, .slice a5 ZS2.length c5] 27)))
    replace HG := hide ((unhide HG).bel (below_a (.cells #[.int .i64 S2, .int .i64 L2, .int .i64 O2, .slice a5 ZS2.length c5] 27)))
    replace HN9 := hide ((unhide HN9).bel (below_a (.cells #[.int .i64 S2, .int .i64 L2, .int .i64 O2, .slice a5 ZS2.length c5] 27)))
    have HV := hide (box_new w21 [.int .i64 S2, .int .i64 L2, .int .i64 O2, .slice a5 ZS2.length c5] 27 (by simp [Value.oneCell']))
    have h0 := (unhide HH).cell 0 rfl
    have h1 := (unhide HH).cell 1 rfl
    have h2 := (unhide HH).cell 2 rfl
    have g0 := (unhide HG).cell 0 rfl
    have g1 := (unhide HG).cell 1 rfl
    have g2 := (unhide HG).cell 2 rfl
    have g3 := (unhide HG).cell 3 rfl
    have n0 := (unhide HN9).cell 0 rfl
    have n1 := (unhide HN9).cell 1 rfl
    have n2 := (unhide HN9).cell 2 rfl
    have v0 := (unhide HV).cell 0 rfl
    have v1 := (unhide HV).cell 1 rfl
    have v2 := (unhide HV).cell 2 rfl
    have v3 := (unhide HV).cell 3 rfl
    cases b2
    case false =>
      go_wp2_with fail
      refine (c10 _).mono ?_
      rintro e w22 ⟨rfl, hww⟩
      have hww := hww.symm
      subst hww
      go_wp2_with fail
      go_ret
      exact ⟨rfl, unhide HB⟩
    go_upto_region 18 with fail
    go_cut [116] (fun s116 wx => s116 = .bool (decide ((a, c, d) = (ra, rc, rd))) ∧ Below w.heap.size w wx ∧ Row wx ap ps ∧ Box wx (w2.heap.size + 1) [.int .i64 a, .int .i64 c, .bool d] ∧ RRow wx (some ⟨br, offr, none⟩) rs ∧ Box wx w13.heap.size [.int .i64 s, .int .i64 l, .int .i64 o, .slice none 0 0] ∧ Box wx (w13.heap.size + 1) [.int .i64 ra, .int .i64 rc, .bool rd])
    case first =>
      by_cases f0 : a = ra
      case neg =>
        have b0 : (a == ra) = false := by rw [beq_eq_false_iff_ne]; exact f0
        have hdec : decide ((a, c, d) = (ra, rc, rd)) = false := decide_eq_false (fun h => f0 (congrArg Prod.fst h))
        go_wp2_with fail
        (try clear h0 h1 h2 g0 g1 g2 g3 n0 n1 n2 v0 v1 v2 v3)
        go_meet
        exact ⟨by rw [hdec], unhide HB, unhide HP, unhide HH, unhide HR, unhide HG, unhide HN9⟩
      by_cases f1 : c = rc
      case neg =>
        (try clear h0 h1 h2 g0 g1 g2 g3 n0 n1 n2 v0 v1 v2 v3)
        subst f0
        have b1e : (c == rc) = false := by rw [beq_eq_false_iff_ne]; exact f1
        have hdec : decide ((a, c, d) = (a, rc, rd)) = false := decide_eq_false (fun h => f1 (congrArg (fun x => x.2.1) h))
        have h0 := (unhide HH).cell 0 rfl
        have h1 := (unhide HH).cell 1 rfl
        have h2 := (unhide HH).cell 2 rfl
        have g0 := (unhide HG).cell 0 rfl
        have g1 := (unhide HG).cell 1 rfl
        have g2 := (unhide HG).cell 2 rfl
        have g3 := (unhide HG).cell 3 rfl
        have n0 := (unhide HN9).cell 0 rfl
        have n1 := (unhide HN9).cell 1 rfl
        have n2 := (unhide HN9).cell 2 rfl
        have v0 := (unhide HV).cell 0 rfl
        have v1 := (unhide HV).cell 1 rfl
        have v2 := (unhide HV).cell 2 rfl
        have v3 := (unhide HV).cell 3 rfl
        go_wp2_with fail
        (try clear h0 h1 h2 g0 g1 g2 g3 n0 n1 n2 v0 v1 v2 v3)
        go_meet
        exact ⟨by rw [hdec], unhide HB, unhide HP, unhide HH, unhide HR, unhide HG, unhide HN9⟩
      subst f0
      subst f1
      cases d <;> cases rd
      case false.false =>
        go_wp2_with fail
        (try clear h0 h1 h2 g0 g1 g2 g3 n0 n1 n2 v0 v1 v2 v3)
        go_meet
        exact ⟨by simp, unhide HB, unhide HP, unhide HH, unhide HR, unhide HG, unhide HN9⟩
      case false.true =>
        go_wp2_with fail
        (try clear h0 h1 h2 g0 g1 g2 g3 n0 n1 n2 v0 v1 v2 v3)
        go_meet
        exact ⟨by simp, unhide HB, unhide HP, unhide HH, unhide HR, unhide HG, unhide HN9⟩
      case true.false =>
        go_wp2_with fail
        (try clear h0 h1 h2 g0 g1 g2 g3 n0 n1 n2 v0 v1 v2 v3)
        go_meet
        exact ⟨by simp, unhide HB, unhide HP, unhide HH, unhide HR, unhide HG, unhide HN9⟩
      case true.true =>
        go_wp2_with fail
        (try clear h0 h1 h2 g0 g1 g2 g3 n0 n1 n2 v0 v1 v2 v3)
        go_meet
        exact ⟨by simp, unhide HB, unhide HP, unhide HH, unhide HR, unhide HG, unhide HN9⟩
    (try clear h0 h1 h2 g0 g1 g2 g3 n0 n1 n2 v0 v1 v2 v3)
    case rest =>
      obtain ⟨rfl, fHB, fHP, fHH, fHR, fHG, fHN9⟩ := hcut
      obtain ⟨W17, hWc⟩ : ∃ x, x = wc := ⟨_, rfl⟩
      subst hWc
      clear HB HP HH HR HG HN9
      have HB := hide fHB
      have HP := hide fHP
      have HH := hide fHH
      have HR := hide fHR
      have HG := hide fHG
      have HN9 := hide fHN9
      clear fHB fHP fHH fHR fHG fHN9
      have hgw : True := trivial
      by_cases heq : (a, c, d) = (ra, rc, rd)
      case pos =>
        rw [decide_eq_true heq]
        go_wp2_with fail
        refine (c10 _).mono ?_
        rintro e w22 ⟨rfl, hww⟩
        have hww := hww.symm
        subst hww
        go_wp2_with fail
        go_ret
        exact ⟨rfl, unhide HB⟩
      rw [decide_eq_false heq]
      obtain ⟨-, -, -, -, hck⟩ := sb_true_h (unhide HSB)
      rw [ownCheck_of (by omega)] at hck
      generalize hlx : Tm.ownLeaf (j : Int) (a, c, d) = lx at *
      generalize hlt : Tm.ownLeaf (j : Int) (ra, rc, rd) = lt at *
      have hla := leavesR_at (unhide HJ)
      rw [hlt] at hla
      have HLX := hide hlx
      have HLT := hide hlt
      have HLA := hide hla
      have HCK := hide hck
      have hl8 := leavesR_8 (unhide HOW)
      have HL8 := hide hl8
      clear hlx hlt hla hck hl8 heq
      by_cases hle : lx = lt
      case pos =>
        have hb9 : (lx == lt) = true := by rw [beq_iff_eq]; exact hle
        clear hle
        have h0 := (unhide HH).cell 0 rfl
        have h1 := (unhide HH).cell 1 rfl
        have h2 := (unhide HH).cell 2 rfl
        have g0 := (unhide HG).cell 0 rfl
        have g1 := (unhide HG).cell 1 rfl
        have g2 := (unhide HG).cell 2 rfl
        have g3 := (unhide HG).cell 3 rfl
        have n0 := (unhide HN9).cell 0 rfl
        have n1 := (unhide HN9).cell 1 rfl
        have n2 := (unhide HN9).cell 2 rfl
        go_wp2_with fail
        generalize W17 = U1 at *
        (try clear h0 h1 h2 g0 g1 g2 g3 n0 n1 n2)
        refine wp_region_held_drew (S := fun w' => Below U1.heap.size U1 w') (by kernel_rfl) (below_drew U1) (fun hHeld => ?_)
        refine wpAnyH_take (i := 0) (oi := { dst := some 118, op := _, type := _, pos := _, after := _, guard := _ }) (v := ?_) rfl (by kernel_rfl) (by kernel_rfl) (by kernel_rfl) (fun _ _ _ h => h) (Or.inl ⟨by rfl, ?_⟩) (by assumption) ?_
        rotate_left
        · intro w hSw
          first | (go_simp; done) | (go_simp; with_reducible rfl) | with_reducible rfl | rfl
        try simp only [Act.put, List.setIfInBounds_toArray, List.set_cons_zero, List.set_cons_succ]
        refine wpAnyH_take (i := 1) (oi := { dst := some 119, op := _, type := _, pos := _, after := _, guard := _ }) (v := ?_) rfl (by kernel_rfl) (by kernel_rfl) (by kernel_rfl) (fun _ _ _ h => h) (Or.inl ⟨by rfl, ?_⟩) (by assumption) ?_
        rotate_left
        · intro w hSw
          have hT := (unhide HH).below hSw; have h0 := hT.cell 0 rfl; have h1 := hT.cell 1 rfl; have h2 := hT.cell 2 rfl; clear hT; have hT := (unhide HG).below hSw; have g0 := hT.cell 0 rfl; have g1 := hT.cell 1 rfl; have g2 := hT.cell 2 rfl; have g3 := hT.cell 3 rfl; clear hT; have hT := (unhide HN9).below hSw; have n0 := hT.cell 0 rfl; have n1 := hT.cell 1 rfl; have n2 := hT.cell 2 rfl; clear hT
          first | (go_simp; done) | (go_simp; with_reducible rfl) | with_reducible rfl | rfl
        try simp only [Act.put, List.setIfInBounds_toArray, List.set_cons_zero, List.set_cons_succ]
        refine wpAnyH_take (i := 3) (oi := { dst := some 121, op := _, type := _, pos := _, after := _, guard := _ }) (v := ?_) rfl (by kernel_rfl) (by kernel_rfl) (by kernel_rfl) (fun _ _ _ h => h) (Or.inl ⟨by rfl, ?_⟩) (by assumption) ?_
        rotate_left
        · intro w hSw
          first | (go_simp; done) | (go_simp; with_reducible rfl) | with_reducible rfl | rfl
        try simp only [Act.put, List.setIfInBounds_toArray, List.set_cons_zero, List.set_cons_succ]
        refine wpAnyH_take (i := 4) (oi := { dst := some 122, op := _, type := _, pos := _, after := _, guard := _ }) (v := ?_) rfl (by kernel_rfl) (by kernel_rfl) (by kernel_rfl) (fun _ _ _ h => h) (Or.inl ⟨by rfl, ?_⟩) (by assumption) ?_
        rotate_left
        · intro w hSw
          have hT := (unhide HH).below hSw; have h0 := hT.cell 0 rfl; have h1 := hT.cell 1 rfl; have h2 := hT.cell 2 rfl; clear hT; have hT := (unhide HG).below hSw; have g0 := hT.cell 0 rfl; have g1 := hT.cell 1 rfl; have g2 := hT.cell 2 rfl; have g3 := hT.cell 3 rfl; clear hT; have hT := (unhide HN9).below hSw; have n0 := hT.cell 0 rfl; have n1 := hT.cell 1 rfl; have n2 := hT.cell 2 rfl; clear hT
          first | (go_simp; done) | (go_simp; with_reducible rfl) | with_reducible rfl | rfl
        try simp only [Act.put, List.setIfInBounds_toArray, List.set_cons_zero, List.set_cons_succ]
        have HD := below_drew U1
        generalize U1.drew = V0 at *
        refine wpAnyH_ready (rs := [2]) (by kernel_rfl) (by simp) ?_
        refine AllReadyH.cons (o := { dst := some 120, op := _, type := _, pos := _, after := _, guard := _ }) rfl (fun K hK => ?_) AllReadyH.nil
        go_simp
        go_at_call 19
        refine (c19 (j : Int) a c d _ (unhide HFT)).mono ?_
        rintro e V1 ⟨rfl, hb⟩
        replace HD := below_then HD hb
        clear hb
        rw [unhide HLX]
        try go_wp2_with fail
        refine hK.out _ _ HD (fun hHeld => ?_)
        clear hK K hHeld
        try simp only [Act.put, List.setIfInBounds_toArray, List.set_cons_zero, List.set_cons_succ]
        refine wpAnyH_ready (rs := [5]) (by kernel_rfl) (by simp) ?_
        refine AllReadyH.cons (o := { dst := some 123, op := _, type := _, pos := _, after := _, guard := _ }) rfl (fun K hK => ?_) AllReadyH.nil
        go_simp
        go_at_call 19
        refine (c19 (j : Int) ra rc rd _ (unhide HFN)).mono ?_
        rintro e V2 ⟨rfl, hb⟩
        replace HD := below_then HD hb
        clear hb
        rw [unhide HLT]
        try go_wp2_with fail
        refine hK.out _ _ HD (fun hHeld => ?_)
        clear hK K hHeld
        try simp only [Act.put, List.setIfInBounds_toArray, List.set_cons_zero, List.set_cons_succ]
        refine wpAnyH_take (i := 6) (oi := { dst := some 124, op := _, type := _, pos := _, after := _, guard := _ }) (v := ?_) rfl (by kernel_rfl) (by kernel_rfl) (by kernel_rfl) (fun _ _ _ h => h) (Or.inl ⟨by rfl, ?_⟩) (by assumption) ?_
        rotate_left
        · intro w hSw
          first | (go_simp; done) | (go_simp; with_reducible rfl) | with_reducible rfl | rfl
        try simp only [Act.put, List.setIfInBounds_toArray, List.set_cons_zero, List.set_cons_succ]
        refine wpAnyH_done (by kernel_rfl) ?_ _
        replace HB := hide (below_tr (unhide HB) HD)
        replace HP := hide ((unhide HP).bel HD)
        replace HH := hide ((unhide HH).bel HD)
        replace HR := hide ((unhide HR).bel HD)
        replace HG := hide ((unhide HG).bel HD)
        replace HN9 := hide ((unhide HN9).bel HD)
        clear HD 
        have h0 := (unhide HH).cell 0 rfl
        have h1 := (unhide HH).cell 1 rfl
        have h2 := (unhide HH).cell 2 rfl
        have g0 := (unhide HG).cell 0 rfl
        have g1 := (unhide HG).cell 1 rfl
        have g2 := (unhide HG).cell 2 rfl
        have g3 := (unhide HG).cell 3 rfl
        have n0 := (unhide HN9).cell 0 rfl
        have n1 := (unhide HN9).cell 1 rfl
        have n2 := (unhide HN9).cell 2 rfl
        go_wp2_with fail
        refine (c10 _).mono ?_
        rintro e w22 ⟨rfl, hww⟩
        have hww := hww.symm
        subst hww
        go_wp2_with fail
        go_ret
        exact ⟨rfl, unhide HB⟩
      have hb9 : (lx == lt) = false := by rw [beq_eq_false_iff_ne]; exact hle
      have h0 := (unhide HH).cell 0 rfl
      have h1 := (unhide HH).cell 1 rfl
      have h2 := (unhide HH).cell 2 rfl
      have g0 := (unhide HG).cell 0 rfl
      have g1 := (unhide HG).cell 1 rfl
      have g2 := (unhide HG).cell 2 rfl
      have g3 := (unhide HG).cell 3 rfl
      have n0 := (unhide HN9).cell 0 rfl
      have n1 := (unhide HN9).cell 1 rfl
      have n2 := (unhide HN9).cell 2 rfl
      go_wp2_with fail
      generalize W17 = U1 at *
      (try clear h0 h1 h2 g0 g1 g2 g3 n0 n1 n2)
      refine wp_region_held_drew (S := fun w' => Below U1.heap.size U1 w') (by kernel_rfl) (below_drew U1) (fun hHeld => ?_)
      refine wpAnyH_take (i := 0) (oi := { dst := some 118, op := _, type := _, pos := _, after := _, guard := _ }) (v := ?_) rfl (by kernel_rfl) (by kernel_rfl) (by kernel_rfl) (fun _ _ _ h => h) (Or.inl ⟨by rfl, ?_⟩) (by assumption) ?_
      rotate_left
      · intro w hSw
        first | (go_simp; done) | (go_simp; with_reducible rfl) | with_reducible rfl | rfl
      try simp only [Act.put, List.setIfInBounds_toArray, List.set_cons_zero, List.set_cons_succ]
      refine wpAnyH_take (i := 1) (oi := { dst := some 119, op := _, type := _, pos := _, after := _, guard := _ }) (v := ?_) rfl (by kernel_rfl) (by kernel_rfl) (by kernel_rfl) (fun _ _ _ h => h) (Or.inl ⟨by rfl, ?_⟩) (by assumption) ?_
      rotate_left
      · intro w hSw
        have hT := (unhide HH).below hSw; have h0 := hT.cell 0 rfl; have h1 := hT.cell 1 rfl; have h2 := hT.cell 2 rfl; clear hT; have hT := (unhide HG).below hSw; have g0 := hT.cell 0 rfl; have g1 := hT.cell 1 rfl; have g2 := hT.cell 2 rfl; have g3 := hT.cell 3 rfl; clear hT; have hT := (unhide HN9).below hSw; have n0 := hT.cell 0 rfl; have n1 := hT.cell 1 rfl; have n2 := hT.cell 2 rfl; clear hT
        first | (go_simp; done) | (go_simp; with_reducible rfl) | with_reducible rfl | rfl
      try simp only [Act.put, List.setIfInBounds_toArray, List.set_cons_zero, List.set_cons_succ]
      refine wpAnyH_take (i := 3) (oi := { dst := some 121, op := _, type := _, pos := _, after := _, guard := _ }) (v := ?_) rfl (by kernel_rfl) (by kernel_rfl) (by kernel_rfl) (fun _ _ _ h => h) (Or.inl ⟨by rfl, ?_⟩) (by assumption) ?_
      rotate_left
      · intro w hSw
        first | (go_simp; done) | (go_simp; with_reducible rfl) | with_reducible rfl | rfl
      try simp only [Act.put, List.setIfInBounds_toArray, List.set_cons_zero, List.set_cons_succ]
      refine wpAnyH_take (i := 4) (oi := { dst := some 122, op := _, type := _, pos := _, after := _, guard := _ }) (v := ?_) rfl (by kernel_rfl) (by kernel_rfl) (by kernel_rfl) (fun _ _ _ h => h) (Or.inl ⟨by rfl, ?_⟩) (by assumption) ?_
      rotate_left
      · intro w hSw
        have hT := (unhide HH).below hSw; have h0 := hT.cell 0 rfl; have h1 := hT.cell 1 rfl; have h2 := hT.cell 2 rfl; clear hT; have hT := (unhide HG).below hSw; have g0 := hT.cell 0 rfl; have g1 := hT.cell 1 rfl; have g2 := hT.cell 2 rfl; have g3 := hT.cell 3 rfl; clear hT; have hT := (unhide HN9).below hSw; have n0 := hT.cell 0 rfl; have n1 := hT.cell 1 rfl; have n2 := hT.cell 2 rfl; clear hT
        first | (go_simp; done) | (go_simp; with_reducible rfl) | with_reducible rfl | rfl
      try simp only [Act.put, List.setIfInBounds_toArray, List.set_cons_zero, List.set_cons_succ]
      have HD := below_drew U1
      generalize U1.drew = V0 at *
      refine wpAnyH_ready (rs := [2]) (by kernel_rfl) (by simp) ?_
      refine AllReadyH.cons (o := { dst := some 120, op := _, type := _, pos := _, after := _, guard := _ }) rfl (fun K hK => ?_) AllReadyH.nil
      go_simp
      go_at_call 19
      refine (c19 (j : Int) a c d _ (unhide HFT)).mono ?_
      rintro e V1 ⟨rfl, hb⟩
      replace HD := below_then HD hb
      clear hb
      rw [unhide HLX]
      try go_wp2_with fail
      refine hK.out _ _ HD (fun hHeld => ?_)
      clear hK K hHeld
      try simp only [Act.put, List.setIfInBounds_toArray, List.set_cons_zero, List.set_cons_succ]
      refine wpAnyH_ready (rs := [5]) (by kernel_rfl) (by simp) ?_
      refine AllReadyH.cons (o := { dst := some 123, op := _, type := _, pos := _, after := _, guard := _ }) rfl (fun K hK => ?_) AllReadyH.nil
      go_simp
      go_at_call 19
      refine (c19 (j : Int) ra rc rd _ (unhide HFN)).mono ?_
      rintro e V2 ⟨rfl, hb⟩
      replace HD := below_then HD hb
      clear hb
      rw [unhide HLT]
      try go_wp2_with fail
      refine hK.out _ _ HD (fun hHeld => ?_)
      clear hK K hHeld
      try simp only [Act.put, List.setIfInBounds_toArray, List.set_cons_zero, List.set_cons_succ]
      refine wpAnyH_take (i := 6) (oi := { dst := some 124, op := _, type := _, pos := _, after := _, guard := _ }) (v := ?_) rfl (by kernel_rfl) (by kernel_rfl) (by kernel_rfl) (fun _ _ _ h => h) (Or.inl ⟨by rfl, ?_⟩) (by assumption) ?_
      rotate_left
      · intro w hSw
        first | (go_simp; done) | (go_simp; with_reducible rfl) | with_reducible rfl | rfl
      try simp only [Act.put, List.setIfInBounds_toArray, List.set_cons_zero, List.set_cons_succ]
      refine wpAnyH_done (by kernel_rfl) ?_ _
      replace HB := hide (below_tr (unhide HB) HD)
      replace HP := hide ((unhide HP).bel HD)
      replace HH := hide ((unhide HH).bel HD)
      replace HR := hide ((unhide HR).bel HD)
      replace HG := hide ((unhide HG).bel HD)
      replace HN9 := hide ((unhide HN9).bel HD)
      clear HD 
      have h0 := (unhide HH).cell 0 rfl
      have h1 := (unhide HH).cell 1 rfl
      have h2 := (unhide HH).cell 2 rfl
      have g0 := (unhide HG).cell 0 rfl
      have g1 := (unhide HG).cell 1 rfl
      have g2 := (unhide HG).cell 2 rfl
      have g3 := (unhide HG).cell 3 rfl
      have n0 := (unhide HN9).cell 0 rfl
      have n1 := (unhide HN9).cell 1 rfl
      have n2 := (unhide HN9).cell 2 rfl
      go_wp2_with fail
      have hlo := leavesR_tre (unhide HOW)
      have hcx : Tm.treCheck (Tm.treRoot (leavesR rs)) (leavesR rs).length (j : Int) lx ps = true := by rw [unhide HL8, ← ownRoot_of (unhide HOW), ← unhide HRO]; exact unhide HCK
      have hh : Tm.treOk (leavesR rs) = true ∧ Tm.treCheck (Tm.treRoot (leavesR rs)) (leavesR rs).length (j : Int) lx ps = true ∧ lx ≠ (leavesR rs).getD (j : Int).toNat 0 := ⟨hlo, hcx, by rw [Int.toNat_natCast, unhide HLA]; exact hle⟩
      have hks := treClash_of hh
      obtain ⟨k0, k1, k2, k3, he, hne, hpp, -⟩ := Tm.clash_is (leavesR rs).length (leavesR rs) (j : Int) lx ps (Nat.le_refl _) (Tm.inv_of hh.1 hh.2.1 hh.2.2)
      rw [he] at hks
      have HKS := hide hks
      have HPP := hide hpp.symm
      have HNE := hide hne
      clear hh hks he hpp hle hlo hcx hne hb9
      generalize V2 = U2 at *
      (try clear h0 h1 h2 g0 g1 g2 g3 n0 n1 n2)
      refine wp_region_held_drew (S := fun w' => Below U2.heap.size U2 w') (by kernel_rfl) (below_drew U2) (fun hHeld => ?_)
      refine wpAnyH_take (i := 0) (oi := { dst := some 126, op := _, type := _, pos := _, after := _, guard := _ }) (v := ?_) rfl (by kernel_rfl) (by kernel_rfl) (by kernel_rfl) (fun _ _ _ h => h) (Or.inl ⟨by rfl, ?_⟩) (by assumption) ?_
      rotate_left
      · intro w hSw
        first | (go_simp; done) | (go_simp; with_reducible rfl) | with_reducible rfl | rfl
      try simp only [Act.put, List.setIfInBounds_toArray, List.set_cons_zero, List.set_cons_succ]
      refine wpAnyH_take (i := 2) (oi := { dst := some 128, op := _, type := _, pos := _, after := _, guard := _ }) (v := ?_) rfl (by kernel_rfl) (by kernel_rfl) (by kernel_rfl) (fun _ _ _ h => h) (Or.inl ⟨by rfl, ?_⟩) (by assumption) ?_
      rotate_left
      · intro w hSw
        first | (go_simp; done) | (go_simp; with_reducible rfl) | with_reducible rfl | rfl
      try simp only [Act.put, List.setIfInBounds_toArray, List.set_cons_zero, List.set_cons_succ]
      refine wpAnyH_take (i := 3) (oi := { dst := some 129, op := _, type := _, pos := _, after := _, guard := _ }) (v := ?_) rfl (by kernel_rfl) (by kernel_rfl) (by kernel_rfl) (fun _ _ _ h => h) (Or.inl ⟨by rfl, ?_⟩) (by assumption) ?_
      rotate_left
      · intro w hSw
        first | (go_simp; done) | (go_simp; with_reducible rfl) | with_reducible rfl | rfl
      try simp only [Act.put, List.setIfInBounds_toArray, List.set_cons_zero, List.set_cons_succ]
      refine wpAnyH_take (i := 4) (oi := { dst := some 130, op := _, type := _, pos := _, after := _, guard := _ }) (v := ?_) rfl (by kernel_rfl) (by kernel_rfl) (by kernel_rfl) (fun _ _ _ h => h) (Or.inl ⟨by rfl, ?_⟩) (by assumption) ?_
      rotate_left
      · intro w hSw
        have hT := (unhide HH).below hSw; have h0 := hT.cell 0 rfl; have h1 := hT.cell 1 rfl; have h2 := hT.cell 2 rfl; clear hT; have hT := (unhide HG).below hSw; have g0 := hT.cell 0 rfl; have g1 := hT.cell 1 rfl; have g2 := hT.cell 2 rfl; have g3 := hT.cell 3 rfl; clear hT; have hT := (unhide HN9).below hSw; have n0 := hT.cell 0 rfl; have n1 := hT.cell 1 rfl; have n2 := hT.cell 2 rfl; clear hT
        first | (go_simp; done) | (go_simp; with_reducible rfl) | with_reducible rfl | rfl
      try simp only [Act.put, List.setIfInBounds_toArray, List.set_cons_zero, List.set_cons_succ]
      refine wpAnyH_take (i := 6) (oi := { dst := some 132, op := _, type := _, pos := _, after := _, guard := _ }) (v := ?_) rfl (by kernel_rfl) (by kernel_rfl) (by kernel_rfl) (fun _ _ _ h => h) (Or.inl ⟨by rfl, ?_⟩) (by assumption) ?_
      rotate_left
      · intro w hSw
        first | (go_simp; done) | (go_simp; with_reducible rfl) | with_reducible rfl | rfl
      try simp only [Act.put, List.setIfInBounds_toArray, List.set_cons_zero, List.set_cons_succ]
      have HD := below_drew U2
      generalize U2.drew = V0 at *
      refine wpAnyH_ready (rs := [1]) (by kernel_rfl) (by simp) ?_
      refine AllReadyH.cons (o := { dst := some 127, op := _, type := _, pos := _, after := _, guard := _ }) rfl (fun K hK => ?_) AllReadyH.nil
      go_simp
      go_at_call 21
      refine (c21 rs (some ⟨br, offr, none⟩) 8 cr _ (unhide HN8) (by omega) ((unhide HR).bel HD)).mono ?_
      rintro e V1 ⟨v, rfl, ho, hb⟩
      replace HD := below_then HD hb
      clear hb
      obtain ⟨alv, clv, rfl, hclv, hlv, -⟩ := ho.row
      rw [unhide HL8] at hclv ⊢
      clear ho
      try go_wp2_with fail
      refine hK.out _ _ HD (fun hHeld => ?_)
      clear hK K hHeld
      try simp only [Act.put, List.setIfInBounds_toArray, List.set_cons_zero, List.set_cons_succ]
      refine wpAnyH_ready (rs := [5]) (by kernel_rfl) (by simp) ?_
      refine AllReadyH.cons (o := { dst := some 131, op := _, type := _, pos := _, after := _, guard := _ }) rfl (fun K hK => ?_) AllReadyH.nil
      go_simp
      go_at_call 19
      refine (c19 (j : Int) a c d _ (unhide HFT)).mono ?_
      rintro e V2 ⟨rfl, hb⟩
      replace hlv := hlv.bel hb
      replace HD := below_then HD hb
      clear hb
      rw [unhide HLX]
      try go_wp2_with fail
      refine hK.out _ _ HD (fun hHeld => ?_)
      clear hK K hHeld
      try simp only [Act.put, List.setIfInBounds_toArray, List.set_cons_zero, List.set_cons_succ]
      refine wpAnyH_ready (rs := [7]) (by kernel_rfl) (by simp) ?_
      refine AllReadyH.cons (o := { dst := some 133, op := _, type := _, pos := _, after := _, guard := _ }) rfl (fun K hK => ?_) AllReadyH.nil
      go_simp
      go_at_call 20
      refine (c20 goes75' (leavesR rs) ps (j : Int) lx alv ap 8 clv np capp _ (unhide HL8) (unhide HQN) hclv hq2 (by omega) (by omega) hlv ((unhide HP).bel HD)).mono ?_
      rintro e V3 ⟨v, rfl, ho, hb⟩
      replace hlv := hlv.bel hb
      replace HD := below_then HD hb
      clear hb
      rw [unhide HKS] at ho
      obtain ⟨ak, ck, rfl, hck, hrk, -⟩ := ho.row
      clear ho
      try go_wp2_with fail
      refine hK.out _ _ HD (fun hHeld => ?_)
      clear hK K hHeld
      try simp only [Act.put, List.setIfInBounds_toArray, List.set_cons_zero, List.set_cons_succ]
      refine wpAnyH_take (i := 8) (oi := { dst := some 23, op := _, type := _, pos := _, after := _, guard := _ }) (v := ?_) rfl (by kernel_rfl) (by kernel_rfl) (by kernel_rfl) (fun _ _ _ h => h) (Or.inl ⟨by rfl, ?_⟩) (by assumption) ?_
      rotate_left
      · intro w hSw
        first | (go_simp; done) | (go_simp; with_reducible rfl) | with_reducible rfl | rfl
      try simp only [Act.put, List.setIfInBounds_toArray, List.set_cons_zero, List.set_cons_succ]
      refine wpAnyH_done (by kernel_rfl) ?_ _
      replace HB := hide (below_tr (unhide HB) HD)
      replace HP := hide ((unhide HP).bel HD)
      replace HH := hide ((unhide HH).bel HD)
      replace HR := hide ((unhide HR).bel HD)
      replace HG := hide ((unhide HG).bel HD)
      replace HN9 := hide ((unhide HN9).bel HD)
      have Hhlv := hide hlv
      have Hhrk := hide hrk
      clear HD hlv hrk
      have h0 := (unhide HH).cell 0 rfl
      have h1 := (unhide HH).cell 1 rfl
      have h2 := (unhide HH).cell 2 rfl
      have g0 := (unhide HG).cell 0 rfl
      have g1 := (unhide HG).cell 1 rfl
      have g2 := (unhide HG).cell 2 rfl
      have g3 := (unhide HG).cell 3 rfl
      have n0 := (unhide HN9).cell 0 rfl
      have n1 := (unhide HN9).cell 1 rfl
      have n2 := (unhide HN9).cell 2 rfl
      (try clear h0 h1 h2 g0 g1 g2 g3 n0 n1 n2)
      obtain ⟨b2, off2, rfl, hcv⟩ := (unhide Hhrk).2 (by simp)
      have e0 := hcv 0 (by simp)
      have e1 := hcv 1 (by simp)
      have e2 := hcv 2 (by simp)
      have e3 := hcv 3 (by simp)
      simp only [List.getD_cons_zero, List.getD_cons_succ, Nat.add_zero] at e0 e1 e2 e3
      generalize V3 = U3 at *
      have HE0 := hide e0
      have HE1 := hide e1
      have HE2 := hide e2
      have HE3 := hide e3
      clear e0 e1 e2 e3 hcv
      have h0 := (unhide HH).cell 0 rfl
      have h1 := (unhide HH).cell 1 rfl
      have h2 := (unhide HH).cell 2 rfl
      have g0 := (unhide HG).cell 0 rfl
      have g1 := (unhide HG).cell 1 rfl
      have g2 := (unhide HG).cell 2 rfl
      have g3 := (unhide HG).cell 3 rfl
      have n0 := (unhide HN9).cell 0 rfl
      have n1 := (unhide HN9).cell 1 rfl
      have n2 := (unhide HN9).cell 2 rfl
      by_cases h02 : k0 = k2
      case neg =>
        have hb02 : (k0 != k2) = true := by rw [bne_iff_ne]; exact h02
        clear h02
        go_wp2_with fail
        (try clear h0 h1 h2 g0 g1 g2 g3 n0 n1 n2)
        refine wp_region_held_drew (S := fun w' => Below U3.heap.size U3 w') (by kernel_rfl) (below_drew U3) (fun hHeld => ?_)
        refine wpAnyH_take (i := 0) (oi := { dst := some 134, op := _, type := _, pos := _, after := _, guard := _ }) (v := ?_) rfl (by kernel_rfl) (by kernel_rfl) (by kernel_rfl) (fun _ _ _ h => h) (Or.inl ⟨by rfl, ?_⟩) (by assumption) ?_
        rotate_left
        · intro w hSw
          first | (go_simp; done) | (go_simp; with_reducible rfl) | with_reducible rfl | rfl
        try simp only [Act.put, List.setIfInBounds_toArray, List.set_cons_zero, List.set_cons_succ]
        refine wpAnyH_take (i := 1) (oi := { dst := some 135, op := _, type := _, pos := _, after := _, guard := _ }) (v := ?_) rfl (by kernel_rfl) (by kernel_rfl) (by kernel_rfl) (fun _ _ _ h => h) (Or.inl ⟨by rfl, ?_⟩) (by assumption) ?_
        rotate_left
        · intro w hSw
          first | (go_simp; done) | (go_simp; with_reducible rfl) | with_reducible rfl | rfl
        try simp only [Act.put, List.setIfInBounds_toArray, List.set_cons_zero, List.set_cons_succ]
        refine wpAnyH_take (i := 2) (oi := { dst := some 136, op := _, type := _, pos := _, after := _, guard := _ }) (v := ?_) rfl (by kernel_rfl) (by kernel_rfl) (by kernel_rfl) (fun _ _ _ h => h) (Or.inl ⟨by rfl, ?_⟩) (by assumption) ?_
        rotate_left
        · intro w hSw
          first | (go_simp; done) | (go_simp; with_reducible rfl) | with_reducible rfl | rfl
        try simp only [Act.put, List.setIfInBounds_toArray, List.set_cons_zero, List.set_cons_succ]
        refine wpAnyH_take (i := 3) (oi := { dst := some 137, op := _, type := _, pos := _, after := _, guard := _ }) (v := ?_) rfl (by kernel_rfl) (by kernel_rfl) (by kernel_rfl) (fun _ _ _ h => h) (Or.inl ⟨by rfl, ?_⟩) (by assumption) ?_
        rotate_left
        · intro w hSw
          first | (go_simp; done) | (go_simp; with_reducible rfl) | with_reducible rfl | rfl
        try simp only [Act.put, List.setIfInBounds_toArray, List.set_cons_zero, List.set_cons_succ]
        refine wpAnyH_take (i := 4) (oi := { dst := some 138, op := _, type := _, pos := _, after := _, guard := _ }) (v := ?_) rfl (by kernel_rfl) (by kernel_rfl) (by kernel_rfl) (fun _ _ _ h => h) (Or.inl ⟨by rfl, ?_⟩) (by assumption) ?_
        rotate_left
        · intro w hSw
          first | (go_simp; done) | (go_simp; with_reducible rfl) | with_reducible rfl | rfl
        try simp only [Act.put, List.setIfInBounds_toArray, List.set_cons_zero, List.set_cons_succ]
        refine wpAnyH_take (i := 5) (oi := { dst := some 139, op := _, type := _, pos := _, after := _, guard := _ }) (v := ?_) rfl (by kernel_rfl) (by kernel_rfl) (by kernel_rfl) (fun _ _ _ h => h) (Or.inl ⟨by rfl, ?_⟩) (by assumption) ?_
        rotate_left
        · intro w hSw
          have hT := (unhide HH).below hSw; have h0 := hT.cell 0 rfl; have h1 := hT.cell 1 rfl; have h2 := hT.cell 2 rfl; clear hT; have hT := (unhide HG).below hSw; have g0 := hT.cell 0 rfl; have g1 := hT.cell 1 rfl; have g2 := hT.cell 2 rfl; have g3 := hT.cell 3 rfl; clear hT; have hT := (unhide HN9).below hSw; have n0 := hT.cell 0 rfl; have n1 := hT.cell 1 rfl; have n2 := hT.cell 2 rfl; clear hT; have e0 := cell_bl hSw (unhide HE0); have e1 := cell_bl hSw (unhide HE1); have e2 := cell_bl hSw (unhide HE2); have e3 := cell_bl hSw (unhide HE3)
          first | (go_simp; done) | (go_simp; with_reducible rfl) | with_reducible rfl | rfl
        try simp only [Act.put, List.setIfInBounds_toArray, List.set_cons_zero, List.set_cons_succ]
        refine wpAnyH_take (i := 6) (oi := { dst := some 140, op := _, type := _, pos := _, after := _, guard := _ }) (v := ?_) rfl (by kernel_rfl) (by kernel_rfl) (by kernel_rfl) (fun _ _ _ h => h) (Or.inl ⟨by rfl, ?_⟩) (by assumption) ?_
        rotate_left
        · intro w hSw
          have hT := (unhide HH).below hSw; have h0 := hT.cell 0 rfl; have h1 := hT.cell 1 rfl; have h2 := hT.cell 2 rfl; clear hT; have hT := (unhide HG).below hSw; have g0 := hT.cell 0 rfl; have g1 := hT.cell 1 rfl; have g2 := hT.cell 2 rfl; have g3 := hT.cell 3 rfl; clear hT; have hT := (unhide HN9).below hSw; have n0 := hT.cell 0 rfl; have n1 := hT.cell 1 rfl; have n2 := hT.cell 2 rfl; clear hT; have e0 := cell_bl hSw (unhide HE0); have e1 := cell_bl hSw (unhide HE1); have e2 := cell_bl hSw (unhide HE2); have e3 := cell_bl hSw (unhide HE3)
          first | (go_simp; done) | (go_simp; with_reducible rfl) | with_reducible rfl | rfl
        try simp only [Act.put, List.setIfInBounds_toArray, List.set_cons_zero, List.set_cons_succ]
        refine wpAnyH_take (i := 7) (oi := { dst := some 141, op := _, type := _, pos := _, after := _, guard := _ }) (v := ?_) rfl (by kernel_rfl) (by kernel_rfl) (by kernel_rfl) (fun _ _ _ h => h) (Or.inl ⟨by rfl, ?_⟩) (by assumption) ?_
        rotate_left
        · intro w hSw
          first | (go_simp; done) | (go_simp; with_reducible rfl) | with_reducible rfl | rfl
        try simp only [Act.put, List.setIfInBounds_toArray, List.set_cons_zero, List.set_cons_succ]
        refine wpAnyH_take (i := 8) (oi := { dst := some 142, op := _, type := _, pos := _, after := _, guard := _ }) (v := ?_) rfl (by kernel_rfl) (by kernel_rfl) (by kernel_rfl) (fun _ _ _ h => h) (Or.inl ⟨by rfl, ?_⟩) (by assumption) ?_
        rotate_left
        · intro w hSw
          have hT := (unhide HH).below hSw; have h0 := hT.cell 0 rfl; have h1 := hT.cell 1 rfl; have h2 := hT.cell 2 rfl; clear hT; have hT := (unhide HG).below hSw; have g0 := hT.cell 0 rfl; have g1 := hT.cell 1 rfl; have g2 := hT.cell 2 rfl; have g3 := hT.cell 3 rfl; clear hT; have hT := (unhide HN9).below hSw; have n0 := hT.cell 0 rfl; have n1 := hT.cell 1 rfl; have n2 := hT.cell 2 rfl; clear hT; have e0 := cell_bl hSw (unhide HE0); have e1 := cell_bl hSw (unhide HE1); have e2 := cell_bl hSw (unhide HE2); have e3 := cell_bl hSw (unhide HE3)
          first | (go_simp; done) | (go_simp; with_reducible rfl) | with_reducible rfl | rfl
        try simp only [Act.put, List.setIfInBounds_toArray, List.set_cons_zero, List.set_cons_succ]
        refine wpAnyH_take (i := 9) (oi := { dst := some 143, op := _, type := _, pos := _, after := _, guard := _ }) (v := ?_) rfl (by kernel_rfl) (by kernel_rfl) (by kernel_rfl) (fun _ _ _ h => h) (Or.inl ⟨by rfl, ?_⟩) (by assumption) ?_
        rotate_left
        · intro w hSw
          have hT := (unhide HH).below hSw; have h0 := hT.cell 0 rfl; have h1 := hT.cell 1 rfl; have h2 := hT.cell 2 rfl; clear hT; have hT := (unhide HG).below hSw; have g0 := hT.cell 0 rfl; have g1 := hT.cell 1 rfl; have g2 := hT.cell 2 rfl; have g3 := hT.cell 3 rfl; clear hT; have hT := (unhide HN9).below hSw; have n0 := hT.cell 0 rfl; have n1 := hT.cell 1 rfl; have n2 := hT.cell 2 rfl; clear hT; have e0 := cell_bl hSw (unhide HE0); have e1 := cell_bl hSw (unhide HE1); have e2 := cell_bl hSw (unhide HE2); have e3 := cell_bl hSw (unhide HE3)
          first | (go_simp; done) | (go_simp; with_reducible rfl) | with_reducible rfl | rfl
        try simp only [Act.put, List.setIfInBounds_toArray, List.set_cons_zero, List.set_cons_succ]
        refine wpAnyH_take (i := 10) (oi := { dst := some 144, op := _, type := _, pos := _, after := _, guard := _ }) (v := ?_) rfl (by kernel_rfl) (by kernel_rfl) (by kernel_rfl) (fun _ _ _ h => h) (Or.inl ⟨by rfl, ?_⟩) (by assumption) ?_
        rotate_left
        · intro w hSw
          first | (go_simp; done) | (go_simp; with_reducible rfl) | with_reducible rfl | rfl
        try simp only [Act.put, List.setIfInBounds_toArray, List.set_cons_zero, List.set_cons_succ]
        refine wpAnyH_take (i := 11) (oi := { dst := some 145, op := _, type := _, pos := _, after := _, guard := _ }) (v := ?_) rfl (by kernel_rfl) (by kernel_rfl) (by kernel_rfl) (fun _ _ _ h => h) (Or.inl ⟨by rfl, ?_⟩) (by assumption) ?_
        rotate_left
        · intro w hSw
          first | (go_simp; done) | (go_simp; with_reducible rfl) | with_reducible rfl | rfl
        try simp only [Act.put, List.setIfInBounds_toArray, List.set_cons_zero, List.set_cons_succ]
        refine wpAnyH_take (i := 12) (oi := { dst := some 146, op := _, type := _, pos := _, after := _, guard := _ }) (v := undef) rfl (by kernel_rfl) (by kernel_rfl) (by kernel_rfl) (fun _ _ _ h => h) (Or.inr ⟨by rfl, rfl⟩) (by assumption) ?_
        try simp only [Act.put, List.setIfInBounds_toArray, List.set_cons_zero, List.set_cons_succ]
        refine wpAnyH_take (i := 13) (oi := { dst := some 147, op := _, type := _, pos := _, after := _, guard := _ }) (v := undef) rfl (by kernel_rfl) (by kernel_rfl) (by kernel_rfl) (fun _ _ _ h => h) (Or.inr ⟨by rfl, rfl⟩) (by assumption) ?_
        try simp only [Act.put, List.setIfInBounds_toArray, List.set_cons_zero, List.set_cons_succ]
        refine wpAnyH_take (i := 14) (oi := { dst := some 148, op := _, type := _, pos := _, after := _, guard := _ }) (v := undef) rfl (by kernel_rfl) (by kernel_rfl) (by kernel_rfl) (fun _ _ _ h => h) (Or.inr ⟨by rfl, rfl⟩) (by assumption) ?_
        try simp only [Act.put, List.setIfInBounds_toArray, List.set_cons_zero, List.set_cons_succ]
        refine wpAnyH_take (i := 15) (oi := { dst := some 149, op := _, type := _, pos := _, after := _, guard := _ }) (v := undef) rfl (by kernel_rfl) (by kernel_rfl) (by kernel_rfl) (fun _ _ _ h => h) (Or.inr ⟨by rfl, rfl⟩) (by assumption) ?_
        try simp only [Act.put, List.setIfInBounds_toArray, List.set_cons_zero, List.set_cons_succ]
        refine wpAnyH_take (i := 16) (oi := { dst := some 150, op := _, type := _, pos := _, after := _, guard := _ }) (v := undef) rfl (by kernel_rfl) (by kernel_rfl) (by kernel_rfl) (fun _ _ _ h => h) (Or.inr ⟨by rfl, rfl⟩) (by assumption) ?_
        try simp only [Act.put, List.setIfInBounds_toArray, List.set_cons_zero, List.set_cons_succ]
        refine wpAnyH_take (i := 17) (oi := { dst := some 151, op := _, type := _, pos := _, after := _, guard := _ }) (v := undef) rfl (by kernel_rfl) (by kernel_rfl) (by kernel_rfl) (fun _ _ _ h => h) (Or.inr ⟨by rfl, rfl⟩) (by assumption) ?_
        try simp only [Act.put, List.setIfInBounds_toArray, List.set_cons_zero, List.set_cons_succ]
        refine wpAnyH_take (i := 18) (oi := { dst := some 152, op := _, type := _, pos := _, after := _, guard := _ }) (v := undef) rfl (by kernel_rfl) (by kernel_rfl) (by kernel_rfl) (fun _ _ _ h => h) (Or.inr ⟨by rfl, rfl⟩) (by assumption) ?_
        try simp only [Act.put, List.setIfInBounds_toArray, List.set_cons_zero, List.set_cons_succ]
        refine wpAnyH_take (i := 19) (oi := { dst := some 153, op := _, type := _, pos := _, after := _, guard := _ }) (v := ?_) rfl (by kernel_rfl) (by kernel_rfl) (by kernel_rfl) (fun _ _ _ h => h) (Or.inl ⟨by rfl, ?_⟩) (by assumption) ?_
        rotate_left
        · intro w hSw
          first | (go_simp; done) | (go_simp; with_reducible rfl) | with_reducible rfl | rfl
        try simp only [Act.put, List.setIfInBounds_toArray, List.set_cons_zero, List.set_cons_succ]
        refine wpAnyH_take (i := 20) (oi := { dst := some 154, op := _, type := _, pos := _, after := _, guard := _ }) (v := ?_) rfl (by kernel_rfl) (by kernel_rfl) (by kernel_rfl) (fun _ _ _ h => h) (Or.inl ⟨by rfl, ?_⟩) (by assumption) ?_
        rotate_left
        · intro w hSw
          first | (go_simp; done) | (go_simp; with_reducible rfl) | with_reducible rfl | rfl
        try simp only [Act.put, List.setIfInBounds_toArray, List.set_cons_zero, List.set_cons_succ]
        refine wpAnyH_take (i := 21) (oi := { dst := some 155, op := _, type := _, pos := _, after := _, guard := _ }) (v := ?_) rfl (by kernel_rfl) (by kernel_rfl) (by kernel_rfl) (fun _ _ _ h => h) (Or.inl ⟨by rfl, ?_⟩) (by assumption) ?_
        rotate_left
        · intro w hSw
          first | (go_simp; done) | (go_simp; with_reducible rfl) | with_reducible rfl | rfl
        try simp only [Act.put, List.setIfInBounds_toArray, List.set_cons_zero, List.set_cons_succ]
        refine wpAnyH_take (i := 22) (oi := { dst := some 156, op := _, type := _, pos := _, after := _, guard := _ }) (v := ?_) rfl (by kernel_rfl) (by kernel_rfl) (by kernel_rfl) (fun _ _ _ h => h) (Or.inl ⟨by rfl, ?_⟩) (by assumption) ?_
        rotate_left
        · intro w hSw
          first | (go_simp; done) | (go_simp; with_reducible rfl) | with_reducible rfl | rfl
        try simp only [Act.put, List.setIfInBounds_toArray, List.set_cons_zero, List.set_cons_succ]
        refine wpAnyH_take (i := 23) (oi := { dst := some 157, op := _, type := _, pos := _, after := _, guard := _ }) (v := ?_) rfl (by kernel_rfl) (by kernel_rfl) (by kernel_rfl) (fun _ _ _ h => h) (Or.inl ⟨by rfl, ?_⟩) (by assumption) ?_
        rotate_left
        · intro w hSw
          have hT := (unhide HH).below hSw; have h0 := hT.cell 0 rfl; have h1 := hT.cell 1 rfl; have h2 := hT.cell 2 rfl; clear hT; have hT := (unhide HG).below hSw; have g0 := hT.cell 0 rfl; have g1 := hT.cell 1 rfl; have g2 := hT.cell 2 rfl; have g3 := hT.cell 3 rfl; clear hT; have hT := (unhide HN9).below hSw; have n0 := hT.cell 0 rfl; have n1 := hT.cell 1 rfl; have n2 := hT.cell 2 rfl; clear hT; have e0 := cell_bl hSw (unhide HE0); have e1 := cell_bl hSw (unhide HE1); have e2 := cell_bl hSw (unhide HE2); have e3 := cell_bl hSw (unhide HE3)
          first | (go_simp; done) | (go_simp; with_reducible rfl) | with_reducible rfl | rfl
        try simp only [Act.put, List.setIfInBounds_toArray, List.set_cons_zero, List.set_cons_succ]
        refine wpAnyH_take (i := 24) (oi := { dst := some 158, op := _, type := _, pos := _, after := _, guard := _ }) (v := ?_) rfl (by kernel_rfl) (by kernel_rfl) (by kernel_rfl) (fun _ _ _ h => h) (Or.inl ⟨by rfl, ?_⟩) (by assumption) ?_
        rotate_left
        · intro w hSw
          have hT := (unhide HH).below hSw; have h0 := hT.cell 0 rfl; have h1 := hT.cell 1 rfl; have h2 := hT.cell 2 rfl; clear hT; have hT := (unhide HG).below hSw; have g0 := hT.cell 0 rfl; have g1 := hT.cell 1 rfl; have g2 := hT.cell 2 rfl; have g3 := hT.cell 3 rfl; clear hT; have hT := (unhide HN9).below hSw; have n0 := hT.cell 0 rfl; have n1 := hT.cell 1 rfl; have n2 := hT.cell 2 rfl; clear hT; have e0 := cell_bl hSw (unhide HE0); have e1 := cell_bl hSw (unhide HE1); have e2 := cell_bl hSw (unhide HE2); have e3 := cell_bl hSw (unhide HE3)
          first | (go_simp; done) | (go_simp; with_reducible rfl) | with_reducible rfl | rfl
        try simp only [Act.put, List.setIfInBounds_toArray, List.set_cons_zero, List.set_cons_succ]
        refine wpAnyH_take (i := 25) (oi := { dst := some 159, op := _, type := _, pos := _, after := _, guard := _ }) (v := ?_) rfl (by kernel_rfl) (by kernel_rfl) (by kernel_rfl) (fun _ _ _ h => h) (Or.inl ⟨by rfl, ?_⟩) (by assumption) ?_
        rotate_left
        · intro w hSw
          first | (go_simp; done) | (go_simp; with_reducible rfl) | with_reducible rfl | rfl
        try simp only [Act.put, List.setIfInBounds_toArray, List.set_cons_zero, List.set_cons_succ]
        refine wpAnyH_take (i := 26) (oi := { dst := some 160, op := _, type := _, pos := _, after := _, guard := _ }) (v := ?_) rfl (by kernel_rfl) (by kernel_rfl) (by kernel_rfl) (fun _ _ _ h => h) (Or.inl ⟨by rfl, ?_⟩) (by assumption) ?_
        rotate_left
        · intro w hSw
          have hT := (unhide HH).below hSw; have h0 := hT.cell 0 rfl; have h1 := hT.cell 1 rfl; have h2 := hT.cell 2 rfl; clear hT; have hT := (unhide HG).below hSw; have g0 := hT.cell 0 rfl; have g1 := hT.cell 1 rfl; have g2 := hT.cell 2 rfl; have g3 := hT.cell 3 rfl; clear hT; have hT := (unhide HN9).below hSw; have n0 := hT.cell 0 rfl; have n1 := hT.cell 1 rfl; have n2 := hT.cell 2 rfl; clear hT; have e0 := cell_bl hSw (unhide HE0); have e1 := cell_bl hSw (unhide HE1); have e2 := cell_bl hSw (unhide HE2); have e3 := cell_bl hSw (unhide HE3)
          first | (go_simp; done) | (go_simp; with_reducible rfl) | with_reducible rfl | rfl
        try simp only [Act.put, List.setIfInBounds_toArray, List.set_cons_zero, List.set_cons_succ]
        refine wpAnyH_take (i := 27) (oi := { dst := some 161, op := _, type := _, pos := _, after := _, guard := _ }) (v := ?_) rfl (by kernel_rfl) (by kernel_rfl) (by kernel_rfl) (fun _ _ _ h => h) (Or.inl ⟨by rfl, ?_⟩) (by assumption) ?_
        rotate_left
        · intro w hSw
          have hT := (unhide HH).below hSw; have h0 := hT.cell 0 rfl; have h1 := hT.cell 1 rfl; have h2 := hT.cell 2 rfl; clear hT; have hT := (unhide HG).below hSw; have g0 := hT.cell 0 rfl; have g1 := hT.cell 1 rfl; have g2 := hT.cell 2 rfl; have g3 := hT.cell 3 rfl; clear hT; have hT := (unhide HN9).below hSw; have n0 := hT.cell 0 rfl; have n1 := hT.cell 1 rfl; have n2 := hT.cell 2 rfl; clear hT; have e0 := cell_bl hSw (unhide HE0); have e1 := cell_bl hSw (unhide HE1); have e2 := cell_bl hSw (unhide HE2); have e3 := cell_bl hSw (unhide HE3)
          first | (go_simp; done) | (go_simp; with_reducible rfl) | with_reducible rfl | rfl
        try simp only [Act.put, List.setIfInBounds_toArray, List.set_cons_zero, List.set_cons_succ]
        refine wpAnyH_take (i := 29) (oi := { dst := some 163, op := _, type := _, pos := _, after := _, guard := _ }) (v := ?_) rfl (by kernel_rfl) (by kernel_rfl) (by kernel_rfl) (fun _ _ _ h => h) (Or.inl ⟨by rfl, ?_⟩) (by assumption) ?_
        rotate_left
        · intro w hSw
          first | (go_simp; done) | (go_simp; with_reducible rfl) | with_reducible rfl | rfl
        try simp only [Act.put, List.setIfInBounds_toArray, List.set_cons_zero, List.set_cons_succ]
        refine wpAnyH_take (i := 30) (oi := { dst := some 164, op := _, type := _, pos := _, after := _, guard := _ }) (v := ?_) rfl (by kernel_rfl) (by kernel_rfl) (by kernel_rfl) (fun _ _ _ h => h) (Or.inl ⟨by rfl, ?_⟩) (by assumption) ?_
        rotate_left
        · intro w hSw
          have hT := (unhide HH).below hSw; have h0 := hT.cell 0 rfl; have h1 := hT.cell 1 rfl; have h2 := hT.cell 2 rfl; clear hT; have hT := (unhide HG).below hSw; have g0 := hT.cell 0 rfl; have g1 := hT.cell 1 rfl; have g2 := hT.cell 2 rfl; have g3 := hT.cell 3 rfl; clear hT; have hT := (unhide HN9).below hSw; have n0 := hT.cell 0 rfl; have n1 := hT.cell 1 rfl; have n2 := hT.cell 2 rfl; clear hT; have e0 := cell_bl hSw (unhide HE0); have e1 := cell_bl hSw (unhide HE1); have e2 := cell_bl hSw (unhide HE2); have e3 := cell_bl hSw (unhide HE3)
          first | (go_simp; done) | (go_simp; with_reducible rfl) | with_reducible rfl | rfl
        try simp only [Act.put, List.setIfInBounds_toArray, List.set_cons_zero, List.set_cons_succ]
        refine wpAnyH_take (i := 31) (oi := { dst := some 165, op := _, type := _, pos := _, after := _, guard := _ }) (v := ?_) rfl (by kernel_rfl) (by kernel_rfl) (by kernel_rfl) (fun _ _ _ h => h) (Or.inl ⟨by rfl, ?_⟩) (by assumption) ?_
        rotate_left
        · intro w hSw
          have hT := (unhide HH).below hSw; have h0 := hT.cell 0 rfl; have h1 := hT.cell 1 rfl; have h2 := hT.cell 2 rfl; clear hT; have hT := (unhide HG).below hSw; have g0 := hT.cell 0 rfl; have g1 := hT.cell 1 rfl; have g2 := hT.cell 2 rfl; have g3 := hT.cell 3 rfl; clear hT; have hT := (unhide HN9).below hSw; have n0 := hT.cell 0 rfl; have n1 := hT.cell 1 rfl; have n2 := hT.cell 2 rfl; clear hT; have e0 := cell_bl hSw (unhide HE0); have e1 := cell_bl hSw (unhide HE1); have e2 := cell_bl hSw (unhide HE2); have e3 := cell_bl hSw (unhide HE3)
          first | (go_simp; done) | (go_simp; with_reducible rfl) | with_reducible rfl | rfl
        try simp only [Act.put, List.setIfInBounds_toArray, List.set_cons_zero, List.set_cons_succ]
        refine wpAnyH_take (i := 32) (oi := { dst := some 166, op := _, type := _, pos := _, after := _, guard := _ }) (v := ?_) rfl (by kernel_rfl) (by kernel_rfl) (by kernel_rfl) (fun _ _ _ h => h) (Or.inl ⟨by rfl, ?_⟩) (by assumption) ?_
        rotate_left
        · intro w hSw
          first | (go_simp; done) | (go_simp; with_reducible rfl) | with_reducible rfl | rfl
        try simp only [Act.put, List.setIfInBounds_toArray, List.set_cons_zero, List.set_cons_succ]
        refine wpAnyH_take (i := 33) (oi := { dst := some 167, op := _, type := _, pos := _, after := _, guard := _ }) (v := ?_) rfl (by kernel_rfl) (by kernel_rfl) (by kernel_rfl) (fun _ _ _ h => h) (Or.inl ⟨by rfl, ?_⟩) (by assumption) ?_
        rotate_left
        · intro w hSw
          have hT := (unhide HH).below hSw; have h0 := hT.cell 0 rfl; have h1 := hT.cell 1 rfl; have h2 := hT.cell 2 rfl; clear hT; have hT := (unhide HG).below hSw; have g0 := hT.cell 0 rfl; have g1 := hT.cell 1 rfl; have g2 := hT.cell 2 rfl; have g3 := hT.cell 3 rfl; clear hT; have hT := (unhide HN9).below hSw; have n0 := hT.cell 0 rfl; have n1 := hT.cell 1 rfl; have n2 := hT.cell 2 rfl; clear hT; have e0 := cell_bl hSw (unhide HE0); have e1 := cell_bl hSw (unhide HE1); have e2 := cell_bl hSw (unhide HE2); have e3 := cell_bl hSw (unhide HE3)
          first | (go_simp; done) | (go_simp; with_reducible rfl) | with_reducible rfl | rfl
        try simp only [Act.put, List.setIfInBounds_toArray, List.set_cons_zero, List.set_cons_succ]
        refine wpAnyH_take (i := 34) (oi := { dst := some 168, op := _, type := _, pos := _, after := _, guard := _ }) (v := ?_) rfl (by kernel_rfl) (by kernel_rfl) (by kernel_rfl) (fun _ _ _ h => h) (Or.inl ⟨by rfl, ?_⟩) (by assumption) ?_
        rotate_left
        · intro w hSw
          have hT := (unhide HH).below hSw; have h0 := hT.cell 0 rfl; have h1 := hT.cell 1 rfl; have h2 := hT.cell 2 rfl; clear hT; have hT := (unhide HG).below hSw; have g0 := hT.cell 0 rfl; have g1 := hT.cell 1 rfl; have g2 := hT.cell 2 rfl; have g3 := hT.cell 3 rfl; clear hT; have hT := (unhide HN9).below hSw; have n0 := hT.cell 0 rfl; have n1 := hT.cell 1 rfl; have n2 := hT.cell 2 rfl; clear hT; have e0 := cell_bl hSw (unhide HE0); have e1 := cell_bl hSw (unhide HE1); have e2 := cell_bl hSw (unhide HE2); have e3 := cell_bl hSw (unhide HE3)
          first | (go_simp; done) | (go_simp; with_reducible rfl) | with_reducible rfl | rfl
        try simp only [Act.put, List.setIfInBounds_toArray, List.set_cons_zero, List.set_cons_succ]
        have HD := below_drew U3
        generalize U3.drew = V0 at *
        refine wpAnyH_ready (rs := [28]) (by kernel_rfl) (by simp) ?_
        refine AllReadyH.cons (o := { dst := some 162, op := _, type := _, pos := _, after := _, guard := _ }) rfl (fun K hK => ?_) AllReadyH.nil
        go_simp
        go_at_call 22
        refine (c22 k0 k1 _).mono ?_
        rintro e V1 ⟨rfl, hww⟩
        have hww := hww.symm
        subst hww
        try go_wp2_with fail
        refine hK.out _ _ HD (fun hHeld => ?_)
        clear hK K hHeld
        try simp only [Act.put, List.setIfInBounds_toArray, List.set_cons_zero, List.set_cons_succ]
        refine wpAnyH_ready (rs := [35]) (by kernel_rfl) (by simp) ?_
        refine AllReadyH.cons (o := { dst := some 169, op := _, type := _, pos := _, after := _, guard := _ }) rfl (fun K hK => ?_) AllReadyH.nil
        go_simp
        go_at_call 22
        refine (c22 k2 k3 _).mono ?_
        rintro e V2 ⟨rfl, hww⟩
        have hww := hww.symm
        subst hww
        rw [unhide HPP]
        try go_wp2_with fail
        refine hK.out _ _ HD (fun hHeld => ?_)
        clear hK K hHeld
        try simp only [Act.put, List.setIfInBounds_toArray, List.set_cons_zero, List.set_cons_succ]
        refine wpAnyH_take (i := 36) (oi := { dst := some 170, op := _, type := _, pos := _, after := _, guard := _ }) (v := ?_) rfl (by kernel_rfl) (by kernel_rfl) (by kernel_rfl) (fun _ _ _ h => h) (Or.inl ⟨by rfl, ?_⟩) (by assumption) ?_
        rotate_left
        · intro w hSw
          first | (go_simp; done) | (go_simp; with_reducible rfl) | with_reducible rfl | rfl
        try simp only [Act.put, List.setIfInBounds_toArray, List.set_cons_zero, List.set_cons_succ]
        refine wpAnyH_take (i := 37) (oi := { dst := some 171, op := _, type := _, pos := _, after := _, guard := _ }) (v := ?_) rfl (by kernel_rfl) (by kernel_rfl) (by kernel_rfl) (fun _ _ _ h => h) (Or.inl ⟨by rfl, ?_⟩) (by assumption) ?_
        rotate_left
        · intro w hSw
          first | (go_simp; done) | (go_simp; with_reducible rfl) | with_reducible rfl | rfl
        try simp only [Act.put, List.setIfInBounds_toArray, List.set_cons_zero, List.set_cons_succ]
        refine wpAnyH_take (i := 38) (oi := { dst := some 4, op := _, type := _, pos := _, after := _, guard := _ }) (v := ?_) rfl (by kernel_rfl) (by kernel_rfl) (by kernel_rfl) (fun _ _ _ h => h) (Or.inl ⟨by rfl, ?_⟩) (by assumption) ?_
        rotate_left
        · intro w hSw
          first | (go_simp; done) | (go_simp; with_reducible rfl) | with_reducible rfl | rfl
        try simp only [Act.put, List.setIfInBounds_toArray, List.set_cons_zero, List.set_cons_succ]
        refine wpAnyH_done (by kernel_rfl) ?_ _
        replace HB := hide (below_tr (unhide HB) HD)
        replace HP := hide ((unhide HP).bel HD)
        replace HH := hide ((unhide HH).bel HD)
        replace HR := hide ((unhide HR).bel HD)
        replace HG := hide ((unhide HG).bel HD)
        replace HN9 := hide ((unhide HN9).bel HD)
        replace Hhlv := hide ((unhide Hhlv).bel HD)
        replace Hhrk := hide ((unhide Hhrk).bel HD)
        clear HD 
        have h0 := (unhide HH).cell 0 rfl
        have h1 := (unhide HH).cell 1 rfl
        have h2 := (unhide HH).cell 2 rfl
        have g0 := (unhide HG).cell 0 rfl
        have g1 := (unhide HG).cell 1 rfl
        have g2 := (unhide HG).cell 2 rfl
        have g3 := (unhide HG).cell 3 rfl
        have n0 := (unhide HN9).cell 0 rfl
        have n1 := (unhide HN9).cell 1 rfl
        have n2 := (unhide HN9).cell 2 rfl
        go_wp2_with fail
        go_ret
        exact ⟨rfl, unhide HB⟩
      have h13 : ¬ k1 = k3 := fun h => unhide HNE ⟨h02, h⟩
      have hb02 : (k0 != k2) = false := by rw [bne_eq_false_iff_eq]; exact h02
      have hb13 : (k1 != k3) = true := by rw [bne_iff_ne]; exact h13
      clear h02 h13
      go_wp2_with fail
      (try clear h0 h1 h2 g0 g1 g2 g3 n0 n1 n2)
      refine wp_region_held_drew (S := fun w' => Below U3.heap.size U3 w') (by kernel_rfl) (below_drew U3) (fun hHeld => ?_)
      refine wpAnyH_take (i := 0) (oi := { dst := some 134, op := _, type := _, pos := _, after := _, guard := _ }) (v := ?_) rfl (by kernel_rfl) (by kernel_rfl) (by kernel_rfl) (fun _ _ _ h => h) (Or.inl ⟨by rfl, ?_⟩) (by assumption) ?_
      rotate_left
      · intro w hSw
        first | (go_simp; done) | (go_simp; with_reducible rfl) | with_reducible rfl | rfl
      try simp only [Act.put, List.setIfInBounds_toArray, List.set_cons_zero, List.set_cons_succ]
      refine wpAnyH_take (i := 1) (oi := { dst := some 135, op := _, type := _, pos := _, after := _, guard := _ }) (v := ?_) rfl (by kernel_rfl) (by kernel_rfl) (by kernel_rfl) (fun _ _ _ h => h) (Or.inl ⟨by rfl, ?_⟩) (by assumption) ?_
      rotate_left
      · intro w hSw
        first | (go_simp; done) | (go_simp; with_reducible rfl) | with_reducible rfl | rfl
      try simp only [Act.put, List.setIfInBounds_toArray, List.set_cons_zero, List.set_cons_succ]
      refine wpAnyH_take (i := 2) (oi := { dst := some 136, op := _, type := _, pos := _, after := _, guard := _ }) (v := ?_) rfl (by kernel_rfl) (by kernel_rfl) (by kernel_rfl) (fun _ _ _ h => h) (Or.inl ⟨by rfl, ?_⟩) (by assumption) ?_
      rotate_left
      · intro w hSw
        first | (go_simp; done) | (go_simp; with_reducible rfl) | with_reducible rfl | rfl
      try simp only [Act.put, List.setIfInBounds_toArray, List.set_cons_zero, List.set_cons_succ]
      refine wpAnyH_take (i := 3) (oi := { dst := some 137, op := _, type := _, pos := _, after := _, guard := _ }) (v := ?_) rfl (by kernel_rfl) (by kernel_rfl) (by kernel_rfl) (fun _ _ _ h => h) (Or.inl ⟨by rfl, ?_⟩) (by assumption) ?_
      rotate_left
      · intro w hSw
        first | (go_simp; done) | (go_simp; with_reducible rfl) | with_reducible rfl | rfl
      try simp only [Act.put, List.setIfInBounds_toArray, List.set_cons_zero, List.set_cons_succ]
      refine wpAnyH_take (i := 4) (oi := { dst := some 138, op := _, type := _, pos := _, after := _, guard := _ }) (v := ?_) rfl (by kernel_rfl) (by kernel_rfl) (by kernel_rfl) (fun _ _ _ h => h) (Or.inl ⟨by rfl, ?_⟩) (by assumption) ?_
      rotate_left
      · intro w hSw
        first | (go_simp; done) | (go_simp; with_reducible rfl) | with_reducible rfl | rfl
      try simp only [Act.put, List.setIfInBounds_toArray, List.set_cons_zero, List.set_cons_succ]
      refine wpAnyH_take (i := 5) (oi := { dst := some 139, op := _, type := _, pos := _, after := _, guard := _ }) (v := ?_) rfl (by kernel_rfl) (by kernel_rfl) (by kernel_rfl) (fun _ _ _ h => h) (Or.inl ⟨by rfl, ?_⟩) (by assumption) ?_
      rotate_left
      · intro w hSw
        have hT := (unhide HH).below hSw; have h0 := hT.cell 0 rfl; have h1 := hT.cell 1 rfl; have h2 := hT.cell 2 rfl; clear hT; have hT := (unhide HG).below hSw; have g0 := hT.cell 0 rfl; have g1 := hT.cell 1 rfl; have g2 := hT.cell 2 rfl; have g3 := hT.cell 3 rfl; clear hT; have hT := (unhide HN9).below hSw; have n0 := hT.cell 0 rfl; have n1 := hT.cell 1 rfl; have n2 := hT.cell 2 rfl; clear hT; have e0 := cell_bl hSw (unhide HE0); have e1 := cell_bl hSw (unhide HE1); have e2 := cell_bl hSw (unhide HE2); have e3 := cell_bl hSw (unhide HE3)
        first | (go_simp; done) | (go_simp; with_reducible rfl) | with_reducible rfl | rfl
      try simp only [Act.put, List.setIfInBounds_toArray, List.set_cons_zero, List.set_cons_succ]
      refine wpAnyH_take (i := 6) (oi := { dst := some 140, op := _, type := _, pos := _, after := _, guard := _ }) (v := ?_) rfl (by kernel_rfl) (by kernel_rfl) (by kernel_rfl) (fun _ _ _ h => h) (Or.inl ⟨by rfl, ?_⟩) (by assumption) ?_
      rotate_left
      · intro w hSw
        have hT := (unhide HH).below hSw; have h0 := hT.cell 0 rfl; have h1 := hT.cell 1 rfl; have h2 := hT.cell 2 rfl; clear hT; have hT := (unhide HG).below hSw; have g0 := hT.cell 0 rfl; have g1 := hT.cell 1 rfl; have g2 := hT.cell 2 rfl; have g3 := hT.cell 3 rfl; clear hT; have hT := (unhide HN9).below hSw; have n0 := hT.cell 0 rfl; have n1 := hT.cell 1 rfl; have n2 := hT.cell 2 rfl; clear hT; have e0 := cell_bl hSw (unhide HE0); have e1 := cell_bl hSw (unhide HE1); have e2 := cell_bl hSw (unhide HE2); have e3 := cell_bl hSw (unhide HE3)
        first | (go_simp; done) | (go_simp; with_reducible rfl) | with_reducible rfl | rfl
      try simp only [Act.put, List.setIfInBounds_toArray, List.set_cons_zero, List.set_cons_succ]
      refine wpAnyH_take (i := 7) (oi := { dst := some 141, op := _, type := _, pos := _, after := _, guard := _ }) (v := ?_) rfl (by kernel_rfl) (by kernel_rfl) (by kernel_rfl) (fun _ _ _ h => h) (Or.inl ⟨by rfl, ?_⟩) (by assumption) ?_
      rotate_left
      · intro w hSw
        first | (go_simp; done) | (go_simp; with_reducible rfl) | with_reducible rfl | rfl
      try simp only [Act.put, List.setIfInBounds_toArray, List.set_cons_zero, List.set_cons_succ]
      refine wpAnyH_take (i := 8) (oi := { dst := some 142, op := _, type := _, pos := _, after := _, guard := _ }) (v := ?_) rfl (by kernel_rfl) (by kernel_rfl) (by kernel_rfl) (fun _ _ _ h => h) (Or.inl ⟨by rfl, ?_⟩) (by assumption) ?_
      rotate_left
      · intro w hSw
        have hT := (unhide HH).below hSw; have h0 := hT.cell 0 rfl; have h1 := hT.cell 1 rfl; have h2 := hT.cell 2 rfl; clear hT; have hT := (unhide HG).below hSw; have g0 := hT.cell 0 rfl; have g1 := hT.cell 1 rfl; have g2 := hT.cell 2 rfl; have g3 := hT.cell 3 rfl; clear hT; have hT := (unhide HN9).below hSw; have n0 := hT.cell 0 rfl; have n1 := hT.cell 1 rfl; have n2 := hT.cell 2 rfl; clear hT; have e0 := cell_bl hSw (unhide HE0); have e1 := cell_bl hSw (unhide HE1); have e2 := cell_bl hSw (unhide HE2); have e3 := cell_bl hSw (unhide HE3)
        first | (go_simp; done) | (go_simp; with_reducible rfl) | with_reducible rfl | rfl
      try simp only [Act.put, List.setIfInBounds_toArray, List.set_cons_zero, List.set_cons_succ]
      refine wpAnyH_take (i := 9) (oi := { dst := some 143, op := _, type := _, pos := _, after := _, guard := _ }) (v := ?_) rfl (by kernel_rfl) (by kernel_rfl) (by kernel_rfl) (fun _ _ _ h => h) (Or.inl ⟨by rfl, ?_⟩) (by assumption) ?_
      rotate_left
      · intro w hSw
        have hT := (unhide HH).below hSw; have h0 := hT.cell 0 rfl; have h1 := hT.cell 1 rfl; have h2 := hT.cell 2 rfl; clear hT; have hT := (unhide HG).below hSw; have g0 := hT.cell 0 rfl; have g1 := hT.cell 1 rfl; have g2 := hT.cell 2 rfl; have g3 := hT.cell 3 rfl; clear hT; have hT := (unhide HN9).below hSw; have n0 := hT.cell 0 rfl; have n1 := hT.cell 1 rfl; have n2 := hT.cell 2 rfl; clear hT; have e0 := cell_bl hSw (unhide HE0); have e1 := cell_bl hSw (unhide HE1); have e2 := cell_bl hSw (unhide HE2); have e3 := cell_bl hSw (unhide HE3)
        first | (go_simp; done) | (go_simp; with_reducible rfl) | with_reducible rfl | rfl
      try simp only [Act.put, List.setIfInBounds_toArray, List.set_cons_zero, List.set_cons_succ]
      refine wpAnyH_take (i := 10) (oi := { dst := some 144, op := _, type := _, pos := _, after := _, guard := _ }) (v := ?_) rfl (by kernel_rfl) (by kernel_rfl) (by kernel_rfl) (fun _ _ _ h => h) (Or.inl ⟨by rfl, ?_⟩) (by assumption) ?_
      rotate_left
      · intro w hSw
        first | (go_simp; done) | (go_simp; with_reducible rfl) | with_reducible rfl | rfl
      try simp only [Act.put, List.setIfInBounds_toArray, List.set_cons_zero, List.set_cons_succ]
      refine wpAnyH_take (i := 11) (oi := { dst := some 145, op := _, type := _, pos := _, after := _, guard := _ }) (v := ?_) rfl (by kernel_rfl) (by kernel_rfl) (by kernel_rfl) (fun _ _ _ h => h) (Or.inl ⟨by rfl, ?_⟩) (by assumption) ?_
      rotate_left
      · intro w hSw
        first | (go_simp; done) | (go_simp; with_reducible rfl) | with_reducible rfl | rfl
      try simp only [Act.put, List.setIfInBounds_toArray, List.set_cons_zero, List.set_cons_succ]
      refine wpAnyH_take (i := 12) (oi := { dst := some 146, op := _, type := _, pos := _, after := _, guard := _ }) (v := ?_) rfl (by kernel_rfl) (by kernel_rfl) (by kernel_rfl) (fun _ _ _ h => h) (Or.inl ⟨by rfl, ?_⟩) (by assumption) ?_
      rotate_left
      · intro w hSw
        first | (go_simp; done) | (go_simp; with_reducible rfl) | with_reducible rfl | rfl
      try simp only [Act.put, List.setIfInBounds_toArray, List.set_cons_zero, List.set_cons_succ]
      refine wpAnyH_take (i := 13) (oi := { dst := some 147, op := _, type := _, pos := _, after := _, guard := _ }) (v := ?_) rfl (by kernel_rfl) (by kernel_rfl) (by kernel_rfl) (fun _ _ _ h => h) (Or.inl ⟨by rfl, ?_⟩) (by assumption) ?_
      rotate_left
      · intro w hSw
        have hT := (unhide HH).below hSw; have h0 := hT.cell 0 rfl; have h1 := hT.cell 1 rfl; have h2 := hT.cell 2 rfl; clear hT; have hT := (unhide HG).below hSw; have g0 := hT.cell 0 rfl; have g1 := hT.cell 1 rfl; have g2 := hT.cell 2 rfl; have g3 := hT.cell 3 rfl; clear hT; have hT := (unhide HN9).below hSw; have n0 := hT.cell 0 rfl; have n1 := hT.cell 1 rfl; have n2 := hT.cell 2 rfl; clear hT; have e0 := cell_bl hSw (unhide HE0); have e1 := cell_bl hSw (unhide HE1); have e2 := cell_bl hSw (unhide HE2); have e3 := cell_bl hSw (unhide HE3)
        first | (go_simp; done) | (go_simp; with_reducible rfl) | with_reducible rfl | rfl
      try simp only [Act.put, List.setIfInBounds_toArray, List.set_cons_zero, List.set_cons_succ]
      refine wpAnyH_take (i := 14) (oi := { dst := some 148, op := _, type := _, pos := _, after := _, guard := _ }) (v := ?_) rfl (by kernel_rfl) (by kernel_rfl) (by kernel_rfl) (fun _ _ _ h => h) (Or.inl ⟨by rfl, ?_⟩) (by assumption) ?_
      rotate_left
      · intro w hSw
        have hT := (unhide HH).below hSw; have h0 := hT.cell 0 rfl; have h1 := hT.cell 1 rfl; have h2 := hT.cell 2 rfl; clear hT; have hT := (unhide HG).below hSw; have g0 := hT.cell 0 rfl; have g1 := hT.cell 1 rfl; have g2 := hT.cell 2 rfl; have g3 := hT.cell 3 rfl; clear hT; have hT := (unhide HN9).below hSw; have n0 := hT.cell 0 rfl; have n1 := hT.cell 1 rfl; have n2 := hT.cell 2 rfl; clear hT; have e0 := cell_bl hSw (unhide HE0); have e1 := cell_bl hSw (unhide HE1); have e2 := cell_bl hSw (unhide HE2); have e3 := cell_bl hSw (unhide HE3)
        first | (go_simp; done) | (go_simp; with_reducible rfl) | with_reducible rfl | rfl
      try simp only [Act.put, List.setIfInBounds_toArray, List.set_cons_zero, List.set_cons_succ]
      refine wpAnyH_take (i := 15) (oi := { dst := some 149, op := _, type := _, pos := _, after := _, guard := _ }) (v := ?_) rfl (by kernel_rfl) (by kernel_rfl) (by kernel_rfl) (fun _ _ _ h => h) (Or.inl ⟨by rfl, ?_⟩) (by assumption) ?_
      rotate_left
      · intro w hSw
        first | (go_simp; done) | (go_simp; with_reducible rfl) | with_reducible rfl | rfl
      try simp only [Act.put, List.setIfInBounds_toArray, List.set_cons_zero, List.set_cons_succ]
      refine wpAnyH_take (i := 16) (oi := { dst := some 150, op := _, type := _, pos := _, after := _, guard := _ }) (v := ?_) rfl (by kernel_rfl) (by kernel_rfl) (by kernel_rfl) (fun _ _ _ h => h) (Or.inl ⟨by rfl, ?_⟩) (by assumption) ?_
      rotate_left
      · intro w hSw
        have hT := (unhide HH).below hSw; have h0 := hT.cell 0 rfl; have h1 := hT.cell 1 rfl; have h2 := hT.cell 2 rfl; clear hT; have hT := (unhide HG).below hSw; have g0 := hT.cell 0 rfl; have g1 := hT.cell 1 rfl; have g2 := hT.cell 2 rfl; have g3 := hT.cell 3 rfl; clear hT; have hT := (unhide HN9).below hSw; have n0 := hT.cell 0 rfl; have n1 := hT.cell 1 rfl; have n2 := hT.cell 2 rfl; clear hT; have e0 := cell_bl hSw (unhide HE0); have e1 := cell_bl hSw (unhide HE1); have e2 := cell_bl hSw (unhide HE2); have e3 := cell_bl hSw (unhide HE3)
        first | (go_simp; done) | (go_simp; with_reducible rfl) | with_reducible rfl | rfl
      try simp only [Act.put, List.setIfInBounds_toArray, List.set_cons_zero, List.set_cons_succ]
      refine wpAnyH_take (i := 17) (oi := { dst := some 151, op := _, type := _, pos := _, after := _, guard := _ }) (v := ?_) rfl (by kernel_rfl) (by kernel_rfl) (by kernel_rfl) (fun _ _ _ h => h) (Or.inl ⟨by rfl, ?_⟩) (by assumption) ?_
      rotate_left
      · intro w hSw
        have hT := (unhide HH).below hSw; have h0 := hT.cell 0 rfl; have h1 := hT.cell 1 rfl; have h2 := hT.cell 2 rfl; clear hT; have hT := (unhide HG).below hSw; have g0 := hT.cell 0 rfl; have g1 := hT.cell 1 rfl; have g2 := hT.cell 2 rfl; have g3 := hT.cell 3 rfl; clear hT; have hT := (unhide HN9).below hSw; have n0 := hT.cell 0 rfl; have n1 := hT.cell 1 rfl; have n2 := hT.cell 2 rfl; clear hT; have e0 := cell_bl hSw (unhide HE0); have e1 := cell_bl hSw (unhide HE1); have e2 := cell_bl hSw (unhide HE2); have e3 := cell_bl hSw (unhide HE3)
        first | (go_simp; done) | (go_simp; with_reducible rfl) | with_reducible rfl | rfl
      try simp only [Act.put, List.setIfInBounds_toArray, List.set_cons_zero, List.set_cons_succ]
      refine wpAnyH_take (i := 18) (oi := { dst := some 152, op := _, type := _, pos := _, after := _, guard := _ }) (v := ?_) rfl (by kernel_rfl) (by kernel_rfl) (by kernel_rfl) (fun _ _ _ h => h) (Or.inl ⟨by rfl, ?_⟩) (by assumption) ?_
      rotate_left
      · intro w hSw
        first | (go_simp; done) | (go_simp; with_reducible rfl) | with_reducible rfl | rfl
      try simp only [Act.put, List.setIfInBounds_toArray, List.set_cons_zero, List.set_cons_succ]
      refine wpAnyH_take (i := 19) (oi := { dst := some 153, op := _, type := _, pos := _, after := _, guard := _ }) (v := ?_) rfl (by kernel_rfl) (by kernel_rfl) (by kernel_rfl) (fun _ _ _ h => h) (Or.inl ⟨by rfl, ?_⟩) (by assumption) ?_
      rotate_left
      · intro w hSw
        first | (go_simp; done) | (go_simp; with_reducible rfl) | with_reducible rfl | rfl
      try simp only [Act.put, List.setIfInBounds_toArray, List.set_cons_zero, List.set_cons_succ]
      refine wpAnyH_take (i := 20) (oi := { dst := some 154, op := _, type := _, pos := _, after := _, guard := _ }) (v := ?_) rfl (by kernel_rfl) (by kernel_rfl) (by kernel_rfl) (fun _ _ _ h => h) (Or.inl ⟨by rfl, ?_⟩) (by assumption) ?_
      rotate_left
      · intro w hSw
        first | (go_simp; done) | (go_simp; with_reducible rfl) | with_reducible rfl | rfl
      try simp only [Act.put, List.setIfInBounds_toArray, List.set_cons_zero, List.set_cons_succ]
      refine wpAnyH_take (i := 21) (oi := { dst := some 155, op := _, type := _, pos := _, after := _, guard := _ }) (v := ?_) rfl (by kernel_rfl) (by kernel_rfl) (by kernel_rfl) (fun _ _ _ h => h) (Or.inl ⟨by rfl, ?_⟩) (by assumption) ?_
      rotate_left
      · intro w hSw
        first | (go_simp; done) | (go_simp; with_reducible rfl) | with_reducible rfl | rfl
      try simp only [Act.put, List.setIfInBounds_toArray, List.set_cons_zero, List.set_cons_succ]
      refine wpAnyH_take (i := 22) (oi := { dst := some 156, op := _, type := _, pos := _, after := _, guard := _ }) (v := ?_) rfl (by kernel_rfl) (by kernel_rfl) (by kernel_rfl) (fun _ _ _ h => h) (Or.inl ⟨by rfl, ?_⟩) (by assumption) ?_
      rotate_left
      · intro w hSw
        first | (go_simp; done) | (go_simp; with_reducible rfl) | with_reducible rfl | rfl
      try simp only [Act.put, List.setIfInBounds_toArray, List.set_cons_zero, List.set_cons_succ]
      refine wpAnyH_take (i := 23) (oi := { dst := some 157, op := _, type := _, pos := _, after := _, guard := _ }) (v := ?_) rfl (by kernel_rfl) (by kernel_rfl) (by kernel_rfl) (fun _ _ _ h => h) (Or.inl ⟨by rfl, ?_⟩) (by assumption) ?_
      rotate_left
      · intro w hSw
        have hT := (unhide HH).below hSw; have h0 := hT.cell 0 rfl; have h1 := hT.cell 1 rfl; have h2 := hT.cell 2 rfl; clear hT; have hT := (unhide HG).below hSw; have g0 := hT.cell 0 rfl; have g1 := hT.cell 1 rfl; have g2 := hT.cell 2 rfl; have g3 := hT.cell 3 rfl; clear hT; have hT := (unhide HN9).below hSw; have n0 := hT.cell 0 rfl; have n1 := hT.cell 1 rfl; have n2 := hT.cell 2 rfl; clear hT; have e0 := cell_bl hSw (unhide HE0); have e1 := cell_bl hSw (unhide HE1); have e2 := cell_bl hSw (unhide HE2); have e3 := cell_bl hSw (unhide HE3)
        first | (go_simp; done) | (go_simp; with_reducible rfl) | with_reducible rfl | rfl
      try simp only [Act.put, List.setIfInBounds_toArray, List.set_cons_zero, List.set_cons_succ]
      refine wpAnyH_take (i := 24) (oi := { dst := some 158, op := _, type := _, pos := _, after := _, guard := _ }) (v := ?_) rfl (by kernel_rfl) (by kernel_rfl) (by kernel_rfl) (fun _ _ _ h => h) (Or.inl ⟨by rfl, ?_⟩) (by assumption) ?_
      rotate_left
      · intro w hSw
        have hT := (unhide HH).below hSw; have h0 := hT.cell 0 rfl; have h1 := hT.cell 1 rfl; have h2 := hT.cell 2 rfl; clear hT; have hT := (unhide HG).below hSw; have g0 := hT.cell 0 rfl; have g1 := hT.cell 1 rfl; have g2 := hT.cell 2 rfl; have g3 := hT.cell 3 rfl; clear hT; have hT := (unhide HN9).below hSw; have n0 := hT.cell 0 rfl; have n1 := hT.cell 1 rfl; have n2 := hT.cell 2 rfl; clear hT; have e0 := cell_bl hSw (unhide HE0); have e1 := cell_bl hSw (unhide HE1); have e2 := cell_bl hSw (unhide HE2); have e3 := cell_bl hSw (unhide HE3)
        first | (go_simp; done) | (go_simp; with_reducible rfl) | with_reducible rfl | rfl
      try simp only [Act.put, List.setIfInBounds_toArray, List.set_cons_zero, List.set_cons_succ]
      refine wpAnyH_take (i := 25) (oi := { dst := some 159, op := _, type := _, pos := _, after := _, guard := _ }) (v := ?_) rfl (by kernel_rfl) (by kernel_rfl) (by kernel_rfl) (fun _ _ _ h => h) (Or.inl ⟨by rfl, ?_⟩) (by assumption) ?_
      rotate_left
      · intro w hSw
        first | (go_simp; done) | (go_simp; with_reducible rfl) | with_reducible rfl | rfl
      try simp only [Act.put, List.setIfInBounds_toArray, List.set_cons_zero, List.set_cons_succ]
      refine wpAnyH_take (i := 26) (oi := { dst := some 160, op := _, type := _, pos := _, after := _, guard := _ }) (v := ?_) rfl (by kernel_rfl) (by kernel_rfl) (by kernel_rfl) (fun _ _ _ h => h) (Or.inl ⟨by rfl, ?_⟩) (by assumption) ?_
      rotate_left
      · intro w hSw
        have hT := (unhide HH).below hSw; have h0 := hT.cell 0 rfl; have h1 := hT.cell 1 rfl; have h2 := hT.cell 2 rfl; clear hT; have hT := (unhide HG).below hSw; have g0 := hT.cell 0 rfl; have g1 := hT.cell 1 rfl; have g2 := hT.cell 2 rfl; have g3 := hT.cell 3 rfl; clear hT; have hT := (unhide HN9).below hSw; have n0 := hT.cell 0 rfl; have n1 := hT.cell 1 rfl; have n2 := hT.cell 2 rfl; clear hT; have e0 := cell_bl hSw (unhide HE0); have e1 := cell_bl hSw (unhide HE1); have e2 := cell_bl hSw (unhide HE2); have e3 := cell_bl hSw (unhide HE3)
        first | (go_simp; done) | (go_simp; with_reducible rfl) | with_reducible rfl | rfl
      try simp only [Act.put, List.setIfInBounds_toArray, List.set_cons_zero, List.set_cons_succ]
      refine wpAnyH_take (i := 27) (oi := { dst := some 161, op := _, type := _, pos := _, after := _, guard := _ }) (v := ?_) rfl (by kernel_rfl) (by kernel_rfl) (by kernel_rfl) (fun _ _ _ h => h) (Or.inl ⟨by rfl, ?_⟩) (by assumption) ?_
      rotate_left
      · intro w hSw
        have hT := (unhide HH).below hSw; have h0 := hT.cell 0 rfl; have h1 := hT.cell 1 rfl; have h2 := hT.cell 2 rfl; clear hT; have hT := (unhide HG).below hSw; have g0 := hT.cell 0 rfl; have g1 := hT.cell 1 rfl; have g2 := hT.cell 2 rfl; have g3 := hT.cell 3 rfl; clear hT; have hT := (unhide HN9).below hSw; have n0 := hT.cell 0 rfl; have n1 := hT.cell 1 rfl; have n2 := hT.cell 2 rfl; clear hT; have e0 := cell_bl hSw (unhide HE0); have e1 := cell_bl hSw (unhide HE1); have e2 := cell_bl hSw (unhide HE2); have e3 := cell_bl hSw (unhide HE3)
        first | (go_simp; done) | (go_simp; with_reducible rfl) | with_reducible rfl | rfl
      try simp only [Act.put, List.setIfInBounds_toArray, List.set_cons_zero, List.set_cons_succ]
      refine wpAnyH_take (i := 29) (oi := { dst := some 163, op := _, type := _, pos := _, after := _, guard := _ }) (v := ?_) rfl (by kernel_rfl) (by kernel_rfl) (by kernel_rfl) (fun _ _ _ h => h) (Or.inl ⟨by rfl, ?_⟩) (by assumption) ?_
      rotate_left
      · intro w hSw
        first | (go_simp; done) | (go_simp; with_reducible rfl) | with_reducible rfl | rfl
      try simp only [Act.put, List.setIfInBounds_toArray, List.set_cons_zero, List.set_cons_succ]
      refine wpAnyH_take (i := 30) (oi := { dst := some 164, op := _, type := _, pos := _, after := _, guard := _ }) (v := ?_) rfl (by kernel_rfl) (by kernel_rfl) (by kernel_rfl) (fun _ _ _ h => h) (Or.inl ⟨by rfl, ?_⟩) (by assumption) ?_
      rotate_left
      · intro w hSw
        have hT := (unhide HH).below hSw; have h0 := hT.cell 0 rfl; have h1 := hT.cell 1 rfl; have h2 := hT.cell 2 rfl; clear hT; have hT := (unhide HG).below hSw; have g0 := hT.cell 0 rfl; have g1 := hT.cell 1 rfl; have g2 := hT.cell 2 rfl; have g3 := hT.cell 3 rfl; clear hT; have hT := (unhide HN9).below hSw; have n0 := hT.cell 0 rfl; have n1 := hT.cell 1 rfl; have n2 := hT.cell 2 rfl; clear hT; have e0 := cell_bl hSw (unhide HE0); have e1 := cell_bl hSw (unhide HE1); have e2 := cell_bl hSw (unhide HE2); have e3 := cell_bl hSw (unhide HE3)
        first | (go_simp; done) | (go_simp; with_reducible rfl) | with_reducible rfl | rfl
      try simp only [Act.put, List.setIfInBounds_toArray, List.set_cons_zero, List.set_cons_succ]
      refine wpAnyH_take (i := 31) (oi := { dst := some 165, op := _, type := _, pos := _, after := _, guard := _ }) (v := ?_) rfl (by kernel_rfl) (by kernel_rfl) (by kernel_rfl) (fun _ _ _ h => h) (Or.inl ⟨by rfl, ?_⟩) (by assumption) ?_
      rotate_left
      · intro w hSw
        have hT := (unhide HH).below hSw; have h0 := hT.cell 0 rfl; have h1 := hT.cell 1 rfl; have h2 := hT.cell 2 rfl; clear hT; have hT := (unhide HG).below hSw; have g0 := hT.cell 0 rfl; have g1 := hT.cell 1 rfl; have g2 := hT.cell 2 rfl; have g3 := hT.cell 3 rfl; clear hT; have hT := (unhide HN9).below hSw; have n0 := hT.cell 0 rfl; have n1 := hT.cell 1 rfl; have n2 := hT.cell 2 rfl; clear hT; have e0 := cell_bl hSw (unhide HE0); have e1 := cell_bl hSw (unhide HE1); have e2 := cell_bl hSw (unhide HE2); have e3 := cell_bl hSw (unhide HE3)
        first | (go_simp; done) | (go_simp; with_reducible rfl) | with_reducible rfl | rfl
      try simp only [Act.put, List.setIfInBounds_toArray, List.set_cons_zero, List.set_cons_succ]
      refine wpAnyH_take (i := 32) (oi := { dst := some 166, op := _, type := _, pos := _, after := _, guard := _ }) (v := ?_) rfl (by kernel_rfl) (by kernel_rfl) (by kernel_rfl) (fun _ _ _ h => h) (Or.inl ⟨by rfl, ?_⟩) (by assumption) ?_
      rotate_left
      · intro w hSw
        first | (go_simp; done) | (go_simp; with_reducible rfl) | with_reducible rfl | rfl
      try simp only [Act.put, List.setIfInBounds_toArray, List.set_cons_zero, List.set_cons_succ]
      refine wpAnyH_take (i := 33) (oi := { dst := some 167, op := _, type := _, pos := _, after := _, guard := _ }) (v := ?_) rfl (by kernel_rfl) (by kernel_rfl) (by kernel_rfl) (fun _ _ _ h => h) (Or.inl ⟨by rfl, ?_⟩) (by assumption) ?_
      rotate_left
      · intro w hSw
        have hT := (unhide HH).below hSw; have h0 := hT.cell 0 rfl; have h1 := hT.cell 1 rfl; have h2 := hT.cell 2 rfl; clear hT; have hT := (unhide HG).below hSw; have g0 := hT.cell 0 rfl; have g1 := hT.cell 1 rfl; have g2 := hT.cell 2 rfl; have g3 := hT.cell 3 rfl; clear hT; have hT := (unhide HN9).below hSw; have n0 := hT.cell 0 rfl; have n1 := hT.cell 1 rfl; have n2 := hT.cell 2 rfl; clear hT; have e0 := cell_bl hSw (unhide HE0); have e1 := cell_bl hSw (unhide HE1); have e2 := cell_bl hSw (unhide HE2); have e3 := cell_bl hSw (unhide HE3)
        first | (go_simp; done) | (go_simp; with_reducible rfl) | with_reducible rfl | rfl
      try simp only [Act.put, List.setIfInBounds_toArray, List.set_cons_zero, List.set_cons_succ]
      refine wpAnyH_take (i := 34) (oi := { dst := some 168, op := _, type := _, pos := _, after := _, guard := _ }) (v := ?_) rfl (by kernel_rfl) (by kernel_rfl) (by kernel_rfl) (fun _ _ _ h => h) (Or.inl ⟨by rfl, ?_⟩) (by assumption) ?_
      rotate_left
      · intro w hSw
        have hT := (unhide HH).below hSw; have h0 := hT.cell 0 rfl; have h1 := hT.cell 1 rfl; have h2 := hT.cell 2 rfl; clear hT; have hT := (unhide HG).below hSw; have g0 := hT.cell 0 rfl; have g1 := hT.cell 1 rfl; have g2 := hT.cell 2 rfl; have g3 := hT.cell 3 rfl; clear hT; have hT := (unhide HN9).below hSw; have n0 := hT.cell 0 rfl; have n1 := hT.cell 1 rfl; have n2 := hT.cell 2 rfl; clear hT; have e0 := cell_bl hSw (unhide HE0); have e1 := cell_bl hSw (unhide HE1); have e2 := cell_bl hSw (unhide HE2); have e3 := cell_bl hSw (unhide HE3)
        first | (go_simp; done) | (go_simp; with_reducible rfl) | with_reducible rfl | rfl
      try simp only [Act.put, List.setIfInBounds_toArray, List.set_cons_zero, List.set_cons_succ]
      have HD := below_drew U3
      generalize U3.drew = V0 at *
      refine wpAnyH_ready (rs := [28]) (by kernel_rfl) (by simp) ?_
      refine AllReadyH.cons (o := { dst := some 162, op := _, type := _, pos := _, after := _, guard := _ }) rfl (fun K hK => ?_) AllReadyH.nil
      go_simp
      go_at_call 22
      refine (c22 k0 k1 _).mono ?_
      rintro e V1 ⟨rfl, hww⟩
      have hww := hww.symm
      subst hww
      try go_wp2_with fail
      refine hK.out _ _ HD (fun hHeld => ?_)
      clear hK K hHeld
      try simp only [Act.put, List.setIfInBounds_toArray, List.set_cons_zero, List.set_cons_succ]
      refine wpAnyH_ready (rs := [35]) (by kernel_rfl) (by simp) ?_
      refine AllReadyH.cons (o := { dst := some 169, op := _, type := _, pos := _, after := _, guard := _ }) rfl (fun K hK => ?_) AllReadyH.nil
      go_simp
      go_at_call 22
      refine (c22 k2 k3 _).mono ?_
      rintro e V2 ⟨rfl, hww⟩
      have hww := hww.symm
      subst hww
      rw [unhide HPP]
      try go_wp2_with fail
      refine hK.out _ _ HD (fun hHeld => ?_)
      clear hK K hHeld
      try simp only [Act.put, List.setIfInBounds_toArray, List.set_cons_zero, List.set_cons_succ]
      refine wpAnyH_take (i := 36) (oi := { dst := some 170, op := _, type := _, pos := _, after := _, guard := _ }) (v := ?_) rfl (by kernel_rfl) (by kernel_rfl) (by kernel_rfl) (fun _ _ _ h => h) (Or.inl ⟨by rfl, ?_⟩) (by assumption) ?_
      rotate_left
      · intro w hSw
        first | (go_simp; done) | (go_simp; with_reducible rfl) | with_reducible rfl | rfl
      try simp only [Act.put, List.setIfInBounds_toArray, List.set_cons_zero, List.set_cons_succ]
      refine wpAnyH_take (i := 37) (oi := { dst := some 171, op := _, type := _, pos := _, after := _, guard := _ }) (v := ?_) rfl (by kernel_rfl) (by kernel_rfl) (by kernel_rfl) (fun _ _ _ h => h) (Or.inl ⟨by rfl, ?_⟩) (by assumption) ?_
      rotate_left
      · intro w hSw
        first | (go_simp; done) | (go_simp; with_reducible rfl) | with_reducible rfl | rfl
      try simp only [Act.put, List.setIfInBounds_toArray, List.set_cons_zero, List.set_cons_succ]
      refine wpAnyH_take (i := 38) (oi := { dst := some 4, op := _, type := _, pos := _, after := _, guard := _ }) (v := ?_) rfl (by kernel_rfl) (by kernel_rfl) (by kernel_rfl) (fun _ _ _ h => h) (Or.inl ⟨by rfl, ?_⟩) (by assumption) ?_
      rotate_left
      · intro w hSw
        first | (go_simp; done) | (go_simp; with_reducible rfl) | with_reducible rfl | rfl
      try simp only [Act.put, List.setIfInBounds_toArray, List.set_cons_zero, List.set_cons_succ]
      refine wpAnyH_done (by kernel_rfl) ?_ _
      replace HB := hide (below_tr (unhide HB) HD)
      replace HP := hide ((unhide HP).bel HD)
      replace HH := hide ((unhide HH).bel HD)
      replace HR := hide ((unhide HR).bel HD)
      replace HG := hide ((unhide HG).bel HD)
      replace HN9 := hide ((unhide HN9).bel HD)
      replace Hhlv := hide ((unhide Hhlv).bel HD)
      replace Hhrk := hide ((unhide Hhrk).bel HD)
      clear HD 
      have h0 := (unhide HH).cell 0 rfl
      have h1 := (unhide HH).cell 1 rfl
      have h2 := (unhide HH).cell 2 rfl
      have g0 := (unhide HG).cell 0 rfl
      have g1 := (unhide HG).cell 1 rfl
      have g2 := (unhide HG).cell 2 rfl
      have g3 := (unhide HG).cell 3 rfl
      have n0 := (unhide HN9).cell 0 rfl
      have n1 := (unhide HN9).cell 1 rfl
      have n2 := (unhide HN9).cell 2 rfl
      go_wp2_with fail
      go_ret
      exact ⟨rfl, unhide HB⟩
end Go.Proofs.YtmlbphmbffkdnaaGreat
