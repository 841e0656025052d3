/-
  The walk of the law FnHedOf: at every code it answers true, and nothing that was there is written.
-/
import Derived.Test.YtimaidcjccakeaaHede
import Derived.Test.YtimaidcjccakeaaHedb
import Derived.Test.YtimaidcjccakeaaLogc
namespace Go.Proofs.Ytimaidcjccakeaa
open Go.RowKit
set_option linter.unusedVariables false
set_option maxRecDepth 100000

theorem Bytes.bel {w w' : World} {ao : Option Addr} {zs : List Int} (h : Bytes w ao zs) (hb : Below w.heap.size w w') : Bytes w' ao zs := by
  refine ⟨h.1, fun hne => ?_⟩
  obtain ⟨b, off, rfl, hcs⟩ := h.2 hne
  exact ⟨b, off, rfl, fun j hj => cell_bl hb (hcs j hj)⟩
theorem okB_ml (zs : List Int) (h : Tm.treOk zs = true) : Tm.okB (Tm.treRoot zs) = true := by
  obtain ⟨h1, h2⟩ := treOk_len h
  rw [treRoot_of h1 h2]
  exact Tm.root_ok _ zs (Nat.le_refl _) h1 h2
theorem hedOk_of {es : List Tm.Ent} (h : foldIs es = true) : hedOk (hS es) (hL es) (hO es) = true := by
  obtain ⟨u0, u1, u2⟩ := hed_yes h
  have h40 := foldIs_len h
  have h3 : Tm.ownOk (foldRows es) = true := by
    unfold foldIs at h
    rw [Option.isSome_iff_exists] at h
    obtain ⟨r, hr⟩ := h
    rw [(fold_some hr).1]
    exact ownFold_ok hr
  rw [u0, u1, u2]
  unfold hedOk
  rw [okB_ml _ (entLeaves_treOk h40), ownRoot_of h3, okB_ml _ (leavesR_tre h3), decide_eq_true (show 0 ≤ (es.length : Int) ∧ (es.length : Int) ≤ 40 by omega)]
  rfl

set_option maxHeartbeats 8000000 in
theorem law10 (bs cs : List Int) (ao bo : Option Addr) (n cap m cap' : Nat) (w : World) (hn : bs.length = n) (hc : n ≤ cap) (hm : cap ≤ maxLen) (hB : Bytes w ao bs) (hn2 : cs.length = m) (hc2 : m ≤ cap') (hm2 : cap' ≤ maxLen) (hB2 : Bytes w bo cs) :
    Calls Try.prog 10 #[.slice ao n cap, .slice bo m cap'] w (Holds w) := by
  have HM := hide hm
  unfold maxLen at hm
  have HBY := hide hB
  have HN := hide hn
  have HB := hide (Below.refl w.heap.size w)
  have HM2 := hide hm2
  unfold maxLen at hm2
  have HBZ := hide hB2
  have HN2 := hide hn2
  clear hB hn hB2 hn2
  by_cases hbig : (1048576 : Int) < (n : Int)
  case pos =>
    go_enter Try.func10, Try.ntmps10
    go_wp2_with fail
    go_ret
    exact ⟨rfl, unhide HB⟩
  by_cases hbig2 : (1048576 : Int) < (m : Int)
  case pos =>
    go_enter Try.func10, Try.ntmps10
    go_wp2_with fail
    go_ret
    exact ⟨rfl, unhide HB⟩
  go_enter Try.func10, Try.ntmps10
  go_wp2_with fail
  refine (c70 bs ao n cap _ HN.out hc (unhide HM) (unhide HBY)).mono ?_
  rintro e w1 ⟨v, es, rfl, hes, ho, hb⟩
  obtain ⟨al, capl, rfl, hcl, hR1, -⟩ := ho.row
  replace HB := hide (below_tr (unhide HB) hb)
  replace HBZ := hide ((unhide HBZ).bel hb)
  clear HBY
  have HR := hide (hR1)
  clear hb ho hR1
  go_wp2_with fail
  generalize hs1 : hS es = s1 at *
  generalize hl1 : hL es = l1 at *
  generalize ho1 : hO es = o1 at *
  generalize hb1 : foldIs es = b1 at *
  have HS1 := hide hs1
  have HL1 := hide hl1
  have HO1 := hide ho1
  have HB1 := hide hb1
  clear hs1 hl1 ho1 hb1
  refine (c71 es al es.length capl _ rfl hcl (by omega) (unhide HR)).mono ?_
  rintro e w2 ⟨rfl, hb⟩
  rw [unhide HS1, unhide HL1, unhide HO1, unhide HB1]
  replace HB := hide (below_tr (unhide HB) hb)
  replace HBZ := hide ((unhide HBZ).bel hb)
  replace HR := hide ((unhide HR).bel hb)
  clear hb
  replace HB := hide (below_al (o := .cells #[.int .i64 s1, .int .i64 l1, .int .i64 o1] 65) (unhide HB))
  replace HBZ := hide ((unhide HBZ).bel (below_a (.cells #[.int .i64 s1, .int .i64 l1, .int .i64 o1] 65)))
  replace HR := hide ((unhide HR).bel (below_a (.cells #[.int .i64 s1, .int .i64 l1, .int .i64 o1] 65)))
  have HX := hide (box_new w2 [.int .i64 s1, .int .i64 l1, .int .i64 o1] 65 (by simp [Value.oneCell']))
  have x0 := (unhide HX).cell 0 rfl
  have x1 := (unhide HX).cell 1 rfl
  have x2 := (unhide HX).cell 2 rfl
  go_wp2_with fail
  refine (c72 es al es.length capl _ rfl hcl (by omega) (unhide HR)).mono ?_
  rintro e w3 ⟨rfl, hb⟩
  rw [unhide HS1, unhide HL1, unhide HO1, unhide HB1]
  clear x0 x1 x2
  replace HB := hide (below_tr (unhide HB) hb)
  replace HBZ := hide ((unhide HBZ).bel hb)
  replace HR := hide ((unhide HR).bel hb)
  replace HX := hide ((unhide HX).bel hb)
  clear hb
  have x0 := (unhide HX).cell 0 rfl
  have x1 := (unhide HX).cell 1 rfl
  have x2 := (unhide HX).cell 2 rfl
  have hlt1 := (unhide HX).lt
  clear x0 x1 x2
  replace HB := hide (below_al (o := .cells #[.int .i64 s1, .int .i64 l1, .int .i64 o1] 65) (unhide HB))
  replace HBZ := hide ((unhide HBZ).bel (below_a (.cells #[.int .i64 s1, .int .i64 l1, .int .i64 o1] 65)))
  replace HR := hide ((unhide HR).bel (below_a (.cells #[.int .i64 s1, .int .i64 l1, .int .i64 o1] 65)))
  replace HX := hide ((unhide HX).bel (below_a (.cells #[.int .i64 s1, .int .i64 l1, .int .i64 o1] 65)))
  have HY := hide (box_new w3 [.int .i64 s1, .int .i64 l1, .int .i64 o1] 65 (by simp [Value.oneCell']))
  have x0 := (unhide HX).cell 0 rfl
  have x1 := (unhide HX).cell 1 rfl
  have x2 := (unhide HX).cell 2 rfl
  have y0 := (unhide HY).cell 0 rfl
  have y1 := (unhide HY).cell 1 rfl
  have y2 := (unhide HY).cell 2 rfl
  go_wp2_with fail
  refine (c73 cs bo m cap' _ HN2.out hc2 (unhide HM2) (unhide HBZ)).mono ?_
  rintro e w4 ⟨v, ls, t, rfl, hls, ht, ho, hb⟩
  clear hlt1
  obtain ⟨al2, capl2, rfl, hcl2, hR1, -⟩ := ho.row
  clear x0 x1 x2 y0 y1 y2
  replace HB := hide (below_tr (unhide HB) hb)
  replace HR := hide ((unhide HR).bel hb)
  replace HX := hide ((unhide HX).bel hb)
  replace HY := hide ((unhide HY).bel hb)
  clear HBZ
  have HRL := hide (hR1)
  clear hb ho hR1
  have x0 := (unhide HX).cell 0 rfl
  have x1 := (unhide HX).cell 1 rfl
  have x2 := (unhide HX).cell 2 rfl
  have y0 := (unhide HY).cell 0 rfl
  have y1 := (unhide HY).cell 1 rfl
  have y2 := (unhide HY).cell 2 rfl
  go_wp2_with fail
  generalize hs2 : aS ls t = s2 at *
  generalize hl2 : aL ls t = l2 at *
  generalize ho2 : aO ls t = o2 at *
  generalize hb2 : aI ls t = b2 at *
  have HS2 := hide hs2
  have HL2 := hide hl2
  have HO2 := hide ho2
  have HB2 := hide hb2
  clear hs2 hl2 ho2 hb2
  refine (c74 ls t al2 ls.length capl2 _ rfl hcl2 (by omega) (unhide HRL)).mono ?_
  rintro e w5 ⟨rfl, hb⟩
  rw [unhide HS2, unhide HL2, unhide HO2, unhide HB2]
  clear x0 x1 x2 y0 y1 y2
  replace HB := hide (below_tr (unhide HB) hb)
  replace HR := hide ((unhide HR).bel hb)
  replace HX := hide ((unhide HX).bel hb)
  replace HY := hide ((unhide HY).bel hb)
  replace HRL := hide ((unhide HRL).bel hb)
  clear hb
  have x0 := (unhide HX).cell 0 rfl
  have x1 := (unhide HX).cell 1 rfl
  have x2 := (unhide HX).cell 2 rfl
  have y0 := (unhide HY).cell 0 rfl
  have y1 := (unhide HY).cell 1 rfl
  have y2 := (unhide HY).cell 2 rfl
  have hlt1 := (unhide HX).lt
  have hlt2 := (unhide HY).lt
  clear x0 x1 x2 y0 y1 y2
  replace HB := hide (below_al (o := .cells #[.int .i64 s2, .int .i64 l2, .int .i64 o2] 65) (unhide HB))
  replace HR := hide ((unhide HR).bel (below_a (.cells #[.int .i64 s2, .int .i64 l2, .int .i64 o2] 65)))
  replace HX := hide ((unhide HX).bel (below_a (.cells #[.int .i64 s2, .int .i64 l2, .int .i64 o2] 65)))
  replace HY := hide ((unhide HY).bel (below_a (.cells #[.int .i64 s2, .int .i64 l2, .int .i64 o2] 65)))
  replace HRL := hide ((unhide HRL).bel (below_a (.cells #[.int .i64 s2, .int .i64 l2, .int .i64 o2] 65)))
  have HU := hide (box_new w5 [.int .i64 s2, .int .i64 l2, .int .i64 o2] 65 (by simp [Value.oneCell']))
  have x0 := (unhide HX).cell 0 rfl
  have x1 := (unhide HX).cell 1 rfl
  have x2 := (unhide HX).cell 2 rfl
  have y0 := (unhide HY).cell 0 rfl
  have y1 := (unhide HY).cell 1 rfl
  have y2 := (unhide HY).cell 2 rfl
  have u0 := (unhide HU).cell 0 rfl
  have u1 := (unhide HU).cell 1 rfl
  have u2 := (unhide HU).cell 2 rfl
  go_wp2_with fail
  refine (c75 ls t al2 ls.length capl2 _ rfl hcl2 (by omega) (unhide HRL)).mono ?_
  rintro e w6 ⟨rfl, hb⟩
  clear hlt1 hlt2
  rw [unhide HS2, unhide HL2, unhide HO2, unhide HB2]
  clear x0 x1 x2 y0 y1 y2 u0 u1 u2
  replace HB := hide (below_tr (unhide HB) hb)
  replace HR := hide ((unhide HR).bel hb)
  replace HX := hide ((unhide HX).bel hb)
  replace HY := hide ((unhide HY).bel hb)
  replace HRL := hide ((unhide HRL).bel hb)
  replace HU := hide ((unhide HU).bel hb)
  clear hb
  have x0 := (unhide HX).cell 0 rfl
  have x1 := (unhide HX).cell 1 rfl
  have x2 := (unhide HX).cell 2 rfl
  have y0 := (unhide HY).cell 0 rfl
  have y1 := (unhide HY).cell 1 rfl
  have y2 := (unhide HY).cell 2 rfl
  have u0 := (unhide HU).cell 0 rfl
  have u1 := (unhide HU).cell 1 rfl
  have u2 := (unhide HU).cell 2 rfl
  have hlt1 := (unhide HX).lt
  have hlt2 := (unhide HY).lt
  have hlt3 := (unhide HU).lt
  clear x0 x1 x2 y0 y1 y2 u0 u1 u2
  replace HB := hide (below_al (o := .cells #[.int .i64 s2, .int .i64 l2, .int .i64 o2] 65) (unhide HB))
  replace HR := hide ((unhide HR).bel (below_a (.cells #[.int .i64 s2, .int .i64 l2, .int .i64 o2] 65)))
  replace HX := hide ((unhide HX).bel (below_a (.cells #[.int .i64 s2, .int .i64 l2, .int .i64 o2] 65)))
  replace HY := hide ((unhide HY).bel (below_a (.cells #[.int .i64 s2, .int .i64 l2, .int .i64 o2] 65)))
  replace HRL := hide ((unhide HRL).bel (below_a (.cells #[.int .i64 s2, .int .i64 l2, .int .i64 o2] 65)))
  replace HU := hide ((unhide HU).bel (below_a (.cells #[.int .i64 s2, .int .i64 l2, .int .i64 o2] 65)))
  have HV := hide (box_new w6 [.int .i64 s2, .int .i64 l2, .int .i64 o2] 65 (by simp [Value.oneCell']))
  have x0 := (unhide HX).cell 0 rfl
  have x1 := (unhide HX).cell 1 rfl
  have x2 := (unhide HX).cell 2 rfl
  have y0 := (unhide HY).cell 0 rfl
  have y1 := (unhide HY).cell 1 rfl
  have y2 := (unhide HY).cell 2 rfl
  have u0 := (unhide HU).cell 0 rfl
  have u1 := (unhide HU).cell 1 rfl
  have u2 := (unhide HU).cell 2 rfl
  have v0 := (unhide HV).cell 0 rfl
  have v1 := (unhide HV).cell 1 rfl
  have v2 := (unhide HV).cell 2 rfl
  have he := eqHedT
  have hg : Try.prog.eqGuardType Try.prog.depth 65 = false := by kernel_rfl
  go_wp2_with fail
  generalize w6.alloc (.cells #[.int .i64 s2, .int .i64 l2, .int .i64 o2] 65) = W5 at *
  clear x0 x1 x2 y0 y1 y2 u0 u1 u2 v0 v1 v2
  refine wp_region_held_drew (S := fun w' => Below W5.heap.size W5 w') (by kernel_rfl) (below_drew W5) (fun hHeld => ?_)
  refine wpAnyH_take (i := 0) (oi := { dst := some 57, op := _, type := _, pos := _, after := _, guard := _ }) (v := ?_) rfl (by kernel_rfl) (by kernel_rfl) (by kernel_rfl) (fun _ _ _ h => h) (Or.inl ⟨by rfl, ?_⟩) (by assumption) ?_
  rotate_left
  · intro w hSw
    have hT := (unhide HX).below hSw; have x0 := hT.cell 0 rfl; have x1 := hT.cell 1 rfl; have x2 := hT.cell 2 rfl; clear hT; have hT := (unhide HY).below hSw; have y0 := hT.cell 0 rfl; have y1 := hT.cell 1 rfl; have y2 := hT.cell 2 rfl; clear hT; have hT := (unhide HU).below hSw; have u0 := hT.cell 0 rfl; have u1 := hT.cell 1 rfl; have u2 := hT.cell 2 rfl; clear hT; have hT := (unhide HV).below hSw; have v0 := hT.cell 0 rfl; have v1 := hT.cell 1 rfl; have v2 := hT.cell 2 rfl; clear hT
    first | (go_simp; done) | (go_simp; with_reducible rfl)
  try simp only [Act.put, List.setIfInBounds_toArray, List.set_cons_zero, List.set_cons_succ]
  refine wpAnyH_take (i := 1) (oi := { dst := some 58, op := _, type := _, pos := _, after := _, guard := _ }) (v := ?_) rfl (by kernel_rfl) (by kernel_rfl) (by kernel_rfl) (fun _ _ _ h => h) (Or.inl ⟨by rfl, ?_⟩) (by assumption) ?_
  rotate_left
  · intro w hSw
    have hT := (unhide HX).below hSw; have x0 := hT.cell 0 rfl; have x1 := hT.cell 1 rfl; have x2 := hT.cell 2 rfl; clear hT; have hT := (unhide HY).below hSw; have y0 := hT.cell 0 rfl; have y1 := hT.cell 1 rfl; have y2 := hT.cell 2 rfl; clear hT; have hT := (unhide HU).below hSw; have u0 := hT.cell 0 rfl; have u1 := hT.cell 1 rfl; have u2 := hT.cell 2 rfl; clear hT; have hT := (unhide HV).below hSw; have v0 := hT.cell 0 rfl; have v1 := hT.cell 1 rfl; have v2 := hT.cell 2 rfl; clear hT
    first | (go_simp; done) | (go_simp; with_reducible rfl)
  try simp only [Act.put, List.setIfInBounds_toArray, List.set_cons_zero, List.set_cons_succ]
  refine wpAnyH_take (i := 2) (oi := { dst := some 59, op := _, type := _, pos := _, after := _, guard := _ }) (v := ?_) rfl (by kernel_rfl) (by kernel_rfl) (by kernel_rfl) (fun _ _ _ h => h) (Or.inl ⟨by rfl, ?_⟩) (by assumption) ?_
  rotate_left
  · intro w hSw
    first | (go_simp; done) | (go_simp; with_reducible rfl)
  try simp only [Act.put, List.setIfInBounds_toArray, List.set_cons_zero, List.set_cons_succ]
  refine wpAnyH_take (i := 3) (oi := { dst := some 60, op := _, type := _, pos := _, after := _, guard := _ }) (v := ?_) rfl (by kernel_rfl) (by kernel_rfl) (by kernel_rfl) (fun _ _ _ h => h) (Or.inl ⟨by rfl, ?_⟩) (by assumption) ?_
  rotate_left
  · intro w hSw
    first | (go_simp; done) | (go_simp; with_reducible rfl)
  try simp only [Act.put, List.setIfInBounds_toArray, List.set_cons_zero, List.set_cons_succ]
  refine wpAnyH_take (i := 4) (oi := { dst := some 61, op := _, type := _, pos := _, after := _, guard := _ }) (v := ?_) rfl (by kernel_rfl) (by kernel_rfl) (by kernel_rfl) (fun _ _ _ h => h) (Or.inl ⟨by rfl, ?_⟩) (by assumption) ?_
  rotate_left
  · intro w hSw
    first | (go_simp; done) | (go_simp; with_reducible rfl)
  try simp only [Act.put, List.setIfInBounds_toArray, List.set_cons_zero, List.set_cons_succ]
  refine wpAnyH_take (i := 5) (oi := { dst := some 62, op := _, type := _, pos := _, after := _, guard := _ }) (v := ?_) rfl (by kernel_rfl) (by kernel_rfl) (by kernel_rfl) (fun _ _ _ h => h) (Or.inl ⟨by rfl, ?_⟩) (by assumption) ?_
  rotate_left
  · intro w hSw
    first | (go_simp; done) | (go_simp; with_reducible rfl)
  try simp only [Act.put, List.setIfInBounds_toArray, List.set_cons_zero, List.set_cons_succ]
  refine wpAnyH_take (i := 6) (oi := { dst := some 63, op := _, type := _, pos := _, after := _, guard := _ }) (v := ?_) rfl (by kernel_rfl) (by kernel_rfl) (by kernel_rfl) (fun _ _ _ h => h) (Or.inl ⟨by rfl, ?_⟩) (by assumption) ?_
  rotate_left
  · intro w hSw
    first | (go_simp; done) | (go_simp; with_reducible rfl)
  try simp only [Act.put, List.setIfInBounds_toArray, List.set_cons_zero, List.set_cons_succ]
  refine wpAnyH_take (i := 7) (oi := { dst := some 64, op := _, type := _, pos := _, after := _, guard := _ }) (v := ?_) rfl (by kernel_rfl) (by kernel_rfl) (by kernel_rfl) (fun _ _ _ h => h) (Or.inl ⟨by rfl, ?_⟩) (by assumption) ?_
  rotate_left
  · intro w hSw
    first | (go_simp; done) | (go_simp; with_reducible rfl)
  try simp only [Act.put, List.setIfInBounds_toArray, List.set_cons_zero, List.set_cons_succ]
  refine wpAnyH_take (i := 8) (oi := { dst := some 65, op := _, type := _, pos := _, after := _, guard := _ }) (v := ?_) rfl (by kernel_rfl) (by kernel_rfl) (by kernel_rfl) (fun _ _ _ h => h) (Or.inl ⟨by rfl, ?_⟩) (by assumption) ?_
  rotate_left
  · intro w hSw
    first | (go_simp; done) | (go_simp; with_reducible rfl)
  try simp only [Act.put, List.setIfInBounds_toArray, List.set_cons_zero, List.set_cons_succ]
  refine wpAnyH_take (i := 9) (oi := { dst := some 66, op := _, type := _, pos := _, after := _, guard := _ }) (v := ?_) rfl (by kernel_rfl) (by kernel_rfl) (by kernel_rfl) (fun _ _ _ h => h) (Or.inl ⟨by rfl, ?_⟩) (by assumption) ?_
  rotate_left
  · intro w hSw
    have hT := (unhide HX).below hSw; have x0 := hT.cell 0 rfl; have x1 := hT.cell 1 rfl; have x2 := hT.cell 2 rfl; clear hT; have hT := (unhide HY).below hSw; have y0 := hT.cell 0 rfl; have y1 := hT.cell 1 rfl; have y2 := hT.cell 2 rfl; clear hT; have hT := (unhide HU).below hSw; have u0 := hT.cell 0 rfl; have u1 := hT.cell 1 rfl; have u2 := hT.cell 2 rfl; clear hT; have hT := (unhide HV).below hSw; have v0 := hT.cell 0 rfl; have v1 := hT.cell 1 rfl; have v2 := hT.cell 2 rfl; clear hT
    first | (go_simp; done) | (go_simp; with_reducible rfl)
  try simp only [Act.put, List.setIfInBounds_toArray, List.set_cons_zero, List.set_cons_succ]
  refine wpAnyH_take (i := 10) (oi := { dst := some 67, op := _, type := _, pos := _, after := _, guard := _ }) (v := ?_) rfl (by kernel_rfl) (by kernel_rfl) (by kernel_rfl) (fun _ _ _ h => h) (Or.inl ⟨by rfl, ?_⟩) (by assumption) ?_
  rotate_left
  · intro w hSw
    have hT := (unhide HX).below hSw; have x0 := hT.cell 0 rfl; have x1 := hT.cell 1 rfl; have x2 := hT.cell 2 rfl; clear hT; have hT := (unhide HY).below hSw; have y0 := hT.cell 0 rfl; have y1 := hT.cell 1 rfl; have y2 := hT.cell 2 rfl; clear hT; have hT := (unhide HU).below hSw; have u0 := hT.cell 0 rfl; have u1 := hT.cell 1 rfl; have u2 := hT.cell 2 rfl; clear hT; have hT := (unhide HV).below hSw; have v0 := hT.cell 0 rfl; have v1 := hT.cell 1 rfl; have v2 := hT.cell 2 rfl; clear hT
    first | (go_simp; done) | (go_simp; with_reducible rfl)
  try simp only [Act.put, List.setIfInBounds_toArray, List.set_cons_zero, List.set_cons_succ]
  refine wpAnyH_take (i := 11) (oi := { dst := some 68, op := _, type := _, pos := _, after := _, guard := _ }) (v := ?_) rfl (by kernel_rfl) (by kernel_rfl) (by kernel_rfl) (fun _ _ _ h => h) (Or.inl ⟨by rfl, ?_⟩) (by assumption) ?_
  rotate_left
  · intro w hSw
    first | (go_simp; done) | (go_simp; with_reducible rfl)
  try simp only [Act.put, List.setIfInBounds_toArray, List.set_cons_zero, List.set_cons_succ]
  refine wpAnyH_take (i := 12) (oi := { dst := some 69, op := _, type := _, pos := _, after := _, guard := _ }) (v := ?_) rfl (by kernel_rfl) (by kernel_rfl) (by kernel_rfl) (fun _ _ _ h => h) (Or.inl ⟨by rfl, ?_⟩) (by assumption) ?_
  rotate_left
  · intro w hSw
    first | (go_simp; done) | (go_simp; with_reducible rfl)
  try simp only [Act.put, List.setIfInBounds_toArray, List.set_cons_zero, List.set_cons_succ]
  refine wpAnyH_take (i := 13) (oi := { dst := some 70, op := _, type := _, pos := _, after := _, guard := _ }) (v := ?_) rfl (by kernel_rfl) (by kernel_rfl) (by kernel_rfl) (fun _ _ _ h => h) (Or.inl ⟨by rfl, ?_⟩) (by assumption) ?_
  rotate_left
  · intro w hSw
    first | (go_simp; done) | (go_simp; with_reducible rfl)
  try simp only [Act.put, List.setIfInBounds_toArray, List.set_cons_zero, List.set_cons_succ]
  refine wpAnyH_take (i := 14) (oi := { dst := some 71, op := _, type := _, pos := _, after := _, guard := _ }) (v := ?_) rfl (by kernel_rfl) (by kernel_rfl) (by kernel_rfl) (fun _ _ _ h => h) (Or.inl ⟨by rfl, ?_⟩) (by assumption) ?_
  rotate_left
  · intro w hSw
    first | (go_simp; done) | (go_simp; with_reducible rfl)
  try simp only [Act.put, List.setIfInBounds_toArray, List.set_cons_zero, List.set_cons_succ]
  refine wpAnyH_take (i := 15) (oi := { dst := some 72, op := _, type := _, pos := _, after := _, guard := _ }) (v := ?_) rfl (by kernel_rfl) (by kernel_rfl) (by kernel_rfl) (fun _ _ _ h => h) (Or.inl ⟨by rfl, ?_⟩) (by assumption) ?_
  rotate_left
  · intro w hSw
    first | (go_simp; done) | (go_simp; with_reducible rfl)
  try simp only [Act.put, List.setIfInBounds_toArray, List.set_cons_zero, List.set_cons_succ]
  refine wpAnyH_take (i := 16) (oi := { dst := some 73, op := _, type := _, pos := _, after := _, guard := _ }) (v := ?_) rfl (by kernel_rfl) (by kernel_rfl) (by kernel_rfl) (fun _ _ _ h => h) (Or.inl ⟨by rfl, ?_⟩) (by assumption) ?_
  rotate_left
  · intro w hSw
    first | (go_simp; done) | (go_simp; with_reducible rfl)
  try simp only [Act.put, List.setIfInBounds_toArray, List.set_cons_zero, List.set_cons_succ]
  refine wpAnyH_take (i := 17) (oi := { dst := some 74, op := _, type := _, pos := _, after := _, guard := _ }) (v := ?_) rfl (by kernel_rfl) (by kernel_rfl) (by kernel_rfl) (fun _ _ _ h => h) (Or.inl ⟨by rfl, ?_⟩) (by assumption) ?_
  rotate_left
  · intro w hSw
    first | (go_simp; done) | (go_simp; with_reducible rfl)
  try simp only [Act.put, List.setIfInBounds_toArray, List.set_cons_zero, List.set_cons_succ]
  refine wpAnyH_take (i := 18) (oi := { dst := some 75, op := _, type := _, pos := _, after := _, guard := _ }) (v := ?_) rfl (by kernel_rfl) (by kernel_rfl) (by kernel_rfl) (fun _ _ _ h => h) (Or.inl ⟨by rfl, ?_⟩) (by assumption) ?_
  rotate_left
  · intro w hSw
    first | (go_simp; done) | (go_simp; with_reducible rfl)
  try simp only [Act.put, List.setIfInBounds_toArray, List.set_cons_zero, List.set_cons_succ]
  refine wpAnyH_take (i := 19) (oi := { dst := some 76, op := _, type := _, pos := _, after := _, guard := _ }) (v := ?_) rfl (by kernel_rfl) (by kernel_rfl) (by kernel_rfl) (fun _ _ _ h => h) (Or.inl ⟨by rfl, ?_⟩) (by assumption) ?_
  rotate_left
  · intro w hSw
    have hT := (unhide HX).below hSw; have x0 := hT.cell 0 rfl; have x1 := hT.cell 1 rfl; have x2 := hT.cell 2 rfl; clear hT; have hT := (unhide HY).below hSw; have y0 := hT.cell 0 rfl; have y1 := hT.cell 1 rfl; have y2 := hT.cell 2 rfl; clear hT; have hT := (unhide HU).below hSw; have u0 := hT.cell 0 rfl; have u1 := hT.cell 1 rfl; have u2 := hT.cell 2 rfl; clear hT; have hT := (unhide HV).below hSw; have v0 := hT.cell 0 rfl; have v1 := hT.cell 1 rfl; have v2 := hT.cell 2 rfl; clear hT
    first | (go_simp; done) | (go_simp; with_reducible rfl)
  try simp only [Act.put, List.setIfInBounds_toArray, List.set_cons_zero, List.set_cons_succ]
  refine wpAnyH_take (i := 21) (oi := { dst := some 78, op := _, type := _, pos := _, after := _, guard := _ }) (v := ?_) rfl (by kernel_rfl) (by kernel_rfl) (by kernel_rfl) (fun _ _ _ h => h) (Or.inl ⟨by rfl, ?_⟩) (by assumption) ?_
  rotate_left
  · intro w hSw
    have hT := (unhide HX).below hSw; have x0 := hT.cell 0 rfl; have x1 := hT.cell 1 rfl; have x2 := hT.cell 2 rfl; clear hT; have hT := (unhide HY).below hSw; have y0 := hT.cell 0 rfl; have y1 := hT.cell 1 rfl; have y2 := hT.cell 2 rfl; clear hT; have hT := (unhide HU).below hSw; have u0 := hT.cell 0 rfl; have u1 := hT.cell 1 rfl; have u2 := hT.cell 2 rfl; clear hT; have hT := (unhide HV).below hSw; have v0 := hT.cell 0 rfl; have v1 := hT.cell 1 rfl; have v2 := hT.cell 2 rfl; clear hT
    first | (go_simp; done) | (go_simp; with_reducible rfl)
  try simp only [Act.put, List.setIfInBounds_toArray, List.set_cons_zero, List.set_cons_succ]
  have HD := below_drew W5
  generalize W5.drew = V0 at *
  refine wpAnyH_ready (rs := [20]) (by kernel_rfl) (by simp) ?_
  refine AllReadyH.cons (o := { dst := some 77, op := _, type := _, pos := _, after := _, guard := _ }) rfl (fun K hK => ?_) AllReadyH.nil
  go_simp
  go_at_call 76
  refine (c76 s1 l1 o1 _).mono ?_
  rintro e V1 ⟨rfl, hb⟩
  replace HD := below_then HD hb
  clear hb
  try go_wp2_with fail
  refine hK.out _ _ HD (fun hHeld => ?_)
  clear hK K hHeld
  try simp only [Act.put, List.setIfInBounds_toArray, List.set_cons_zero, List.set_cons_succ]
  refine wpAnyH_ready (rs := [22]) (by kernel_rfl) (by simp) ?_
  refine AllReadyH.cons (o := { dst := some 79, op := _, type := _, pos := _, after := _, guard := _ }) rfl (fun K hK => ?_) AllReadyH.nil
  go_simp
  go_at_call 77
  refine (c77 s1 l1 o1 _).mono ?_
  rintro e V2 ⟨rfl, hb⟩
  replace HD := below_then HD hb
  clear hb
  try go_wp2_with fail
  refine hK.out _ _ HD (fun hHeld => ?_)
  clear hK K hHeld
  try simp only [Act.put, List.setIfInBounds_toArray, List.set_cons_zero, List.set_cons_succ]
  refine wpAnyH_take (i := 23) (oi := { dst := some 80, op := _, type := _, pos := _, after := _, guard := _ }) (v := ?_) rfl (by kernel_rfl) (by kernel_rfl) (by kernel_rfl) (fun _ _ _ h => h) (Or.inl ⟨by rfl, ?_⟩) (by assumption) ?_
  rotate_left
  · intro w hSw
    first | (go_simp; done) | (go_simp; with_reducible rfl)
  try simp only [Act.put, List.setIfInBounds_toArray, List.set_cons_zero, List.set_cons_succ]
  refine wpAnyH_take (i := 24) (oi := { dst := some 81, op := _, type := _, pos := _, after := _, guard := _ }) (v := ?_) rfl (by kernel_rfl) (by kernel_rfl) (by kernel_rfl) (fun _ _ _ h => h) (Or.inl ⟨by rfl, ?_⟩) (by assumption) ?_
  rotate_left
  · intro w hSw
    first | (go_simp; done) | (go_simp; with_reducible rfl)
  try simp only [Act.put, List.setIfInBounds_toArray, List.set_cons_zero, List.set_cons_succ]
  refine wpAnyH_done (by kernel_rfl) ?_ _
  replace HB := hide (below_tr (unhide HB) HD)
  replace HR := hide ((unhide HR).bel HD)
  replace HX := hide ((unhide HX).bel HD)
  replace HY := hide ((unhide HY).bel HD)
  replace HRL := hide ((unhide HRL).bel HD)
  replace HU := hide ((unhide HU).bel HD)
  replace HV := hide ((unhide HV).bel HD)
  clear HD 
  have x0 := (unhide HX).cell 0 rfl
  have x1 := (unhide HX).cell 1 rfl
  have x2 := (unhide HX).cell 2 rfl
  have y0 := (unhide HY).cell 0 rfl
  have y1 := (unhide HY).cell 1 rfl
  have y2 := (unhide HY).cell 2 rfl
  have u0 := (unhide HU).cell 0 rfl
  have u1 := (unhide HU).cell 1 rfl
  have u2 := (unhide HU).cell 2 rfl
  have v0 := (unhide HV).cell 0 rfl
  have v1 := (unhide HV).cell 1 rfl
  have v2 := (unhide HV).cell 2 rfl
  rcases hbb : b2 with _ | _
  case false =>
    subst hbb
    go_wp2_with fail
    clear x0 x1 x2 y0 y1 y2 u0 u1 u2 v0 v1 v2
    clear HY
    have x0 := (unhide HX).cell 0 rfl
    have x1 := (unhide HX).cell 1 rfl
    have x2 := (unhide HX).cell 2 rfl
    have u0 := (unhide HU).cell 0 rfl
    have u1 := (unhide HU).cell 1 rfl
    have u2 := (unhide HU).cell 2 rfl
    have v0 := (unhide HV).cell 0 rfl
    have v1 := (unhide HV).cell 1 rfl
    have v2 := (unhide HV).cell 2 rfl
    clear x0 x1 x2 u0 u1 u2 v0 v1 v2
    clear HV
    have x0 := (unhide HX).cell 0 rfl
    have x1 := (unhide HX).cell 1 rfl
    have x2 := (unhide HX).cell 2 rfl
    have u0 := (unhide HU).cell 0 rfl
    have u1 := (unhide HU).cell 1 rfl
    have u2 := (unhide HU).cell 2 rfl
    refine (c48 es al es.length capl _ rfl (by omega) (unhide HR)).mono ?_
    rintro e w7 ⟨v9, rfl, ho, hb⟩
    rw [unhide HB1]
    obtain ⟨ar, capr, rfl, hcr, hrr, -⟩ := ho.row
    clear x0 x1 x2 u0 u1 u2
    replace HB := hide (below_tr (unhide HB) hb)
    replace HR := hide ((unhide HR).bel hb)
    replace HX := hide ((unhide HX).bel hb)
    replace HRL := hide ((unhide HRL).bel hb)
    replace HU := hide ((unhide HU).bel hb)
    have HW := hide (hrr)
    clear hb ho hrr
    have x0 := (unhide HX).cell 0 rfl
    have x1 := (unhide HX).cell 1 rfl
    have x2 := (unhide HX).cell 2 rfl
    have u0 := (unhide HU).cell 0 rfl
    have u1 := (unhide HU).cell 1 rfl
    have u2 := (unhide HU).cell 2 rfl
    have hl8 := foldRows_len es
    cases b1
    case false =>
      obtain ⟨e0, e1, e2⟩ := hed_no (unhide HB1)
      rw [unhide HS1] at e0
      rw [unhide HL1] at e1
      rw [unhide HO1] at e2
      subst e0 e1 e2
      go_wp2_with fail
      refine (c41 _).mono ?_
      rintro e w8 ⟨rfl, hww⟩
      have hww := hww.symm
      subst hww
      go_wp2_with fail
      go_ret
      exact ⟨rfl, unhide HB⟩
    obtain ⟨e0, e1, e2⟩ := hed_yes (unhide HB1)
    rw [unhide HS1] at e0
    rw [unhide HL1] at e1
    rw [unhide HO1] at e2
    have hok := hedOk_of (unhide HB1)
    rw [unhide HS1, unhide HL1, unhide HO1] at hok
    have HOK := hide hok
    have HE0 := hide e0
    have HE1 := hide e1
    have HE2 := hide e2
    have d0 : (s1 == (es.length : Int)) = true := by rw [beq_iff_eq]; exact e0
    have HLL := hide (entLeaves_ln es)
    clear e0 e1 e2 hok
    go_wp2_with fail
    clear x0 x1 x2 u0 u1 u2
    refine wp_region_held_drew (S := fun w' => Below w7.heap.size w7 w') (by kernel_rfl) (below_drew w7) (fun hHeld => ?_)
    refine wpAnyH_take (i := 0) (oi := { dst := some 116, op := _, type := _, pos := _, after := _, guard := _ }) (v := ?_) rfl (by kernel_rfl) (by kernel_rfl) (by kernel_rfl) (fun _ _ _ h => h) (Or.inl ⟨by rfl, ?_⟩) (by assumption) ?_
    rotate_left
    · intro w hSw
      first | (go_simp; done) | (go_simp; with_reducible rfl)
    try simp only [Act.put, List.setIfInBounds_toArray, List.set_cons_zero, List.set_cons_succ]
    refine wpAnyH_take (i := 1) (oi := { dst := some 117, op := _, type := _, pos := _, after := _, guard := _ }) (v := ?_) rfl (by kernel_rfl) (by kernel_rfl) (by kernel_rfl) (fun _ _ _ h => h) (Or.inl ⟨by rfl, ?_⟩) (by assumption) ?_
    rotate_left
    · intro w hSw
      first | (go_simp; done) | (go_simp; with_reducible rfl)
    try simp only [Act.put, List.setIfInBounds_toArray, List.set_cons_zero, List.set_cons_succ]
    refine wpAnyH_take (i := 2) (oi := { dst := some 118, op := _, type := _, pos := _, after := _, guard := _ }) (v := ?_) rfl (by kernel_rfl) (by kernel_rfl) (by kernel_rfl) (fun _ _ _ h => h) (Or.inl ⟨by rfl, ?_⟩) (by assumption) ?_
    rotate_left
    · intro w hSw
      have hT := (unhide HX).below hSw; have x0 := hT.cell 0 rfl; have x1 := hT.cell 1 rfl; have x2 := hT.cell 2 rfl; clear hT; have hT := (unhide HU).below hSw; have u0 := hT.cell 0 rfl; have u1 := hT.cell 1 rfl; have u2 := hT.cell 2 rfl; clear hT
      first | (go_simp; done) | (go_simp; with_reducible rfl)
    try simp only [Act.put, List.setIfInBounds_toArray, List.set_cons_zero, List.set_cons_succ]
    have HD := below_drew w7
    generalize w7.drew = V0 at *
    refine wpAnyH_ready (rs := [3]) (by kernel_rfl) (by simp) ?_
    refine AllReadyH.cons (o := { dst := some 119, op := _, type := _, pos := _, after := _, guard := _ }) rfl (fun K hK => ?_) AllReadyH.nil
    go_simp
    go_at_call 76
    refine (c76 s1 l1 o1 _).mono ?_
    rintro e V1 ⟨rfl, hb⟩
    replace HD := below_then HD hb
    clear hb
    rw [unhide HOK]
    try go_wp2_with fail
    refine hK.out _ _ HD (fun hHeld => ?_)
    clear hK K hHeld
    try simp only [Act.put, List.setIfInBounds_toArray, List.set_cons_zero, List.set_cons_succ]
    refine wpAnyH_take (i := 4) (oi := { dst := some 120, op := _, type := _, pos := _, after := _, guard := _ }) (v := ?_) rfl (by kernel_rfl) (by kernel_rfl) (by kernel_rfl) (fun _ _ _ h => h) (Or.inl ⟨by rfl, ?_⟩) (by assumption) ?_
    rotate_left
    · intro w hSw
      first | (go_simp; done) | (go_simp; with_reducible rfl)
    try simp only [Act.put, List.setIfInBounds_toArray, List.set_cons_zero, List.set_cons_succ]
    refine wpAnyH_take (i := 5) (oi := { dst := some 121, op := _, type := _, pos := _, after := _, guard := _ }) (v := ?_) rfl (by kernel_rfl) (by kernel_rfl) (by kernel_rfl) (fun _ _ _ h => h) (Or.inl ⟨by rfl, ?_⟩) (by assumption) ?_
    rotate_left
    · intro w hSw
      first | (go_simp; done) | (go_simp; with_reducible rfl)
    try simp only [Act.put, List.setIfInBounds_toArray, List.set_cons_zero, List.set_cons_succ]
    refine wpAnyH_take (i := 6) (oi := { dst := some 122, op := _, type := _, pos := _, after := _, guard := _ }) (v := ?_) rfl (by kernel_rfl) (by kernel_rfl) (by kernel_rfl) (fun _ _ _ h => h) (Or.inl ⟨by rfl, ?_⟩) (by assumption) ?_
    rotate_left
    · intro w hSw
      have hT := (unhide HX).below hSw; have x0 := hT.cell 0 rfl; have x1 := hT.cell 1 rfl; have x2 := hT.cell 2 rfl; clear hT; have hT := (unhide HU).below hSw; have u0 := hT.cell 0 rfl; have u1 := hT.cell 1 rfl; have u2 := hT.cell 2 rfl; clear hT
      first | (go_simp; done) | (go_simp; with_reducible rfl)
    try simp only [Act.put, List.setIfInBounds_toArray, List.set_cons_zero, List.set_cons_succ]
    refine wpAnyH_take (i := 7) (oi := { dst := some 123, op := _, type := _, pos := _, after := _, guard := _ }) (v := ?_) rfl (by kernel_rfl) (by kernel_rfl) (by kernel_rfl) (fun _ _ _ h => h) (Or.inl ⟨by rfl, ?_⟩) (by assumption) ?_
    rotate_left
    · intro w hSw
      have hT := (unhide HX).below hSw; have x0 := hT.cell 0 rfl; have x1 := hT.cell 1 rfl; have x2 := hT.cell 2 rfl; clear hT; have hT := (unhide HU).below hSw; have u0 := hT.cell 0 rfl; have u1 := hT.cell 1 rfl; have u2 := hT.cell 2 rfl; clear hT
      first | (go_simp; done) | (go_simp; with_reducible rfl)
    try simp only [Act.put, List.setIfInBounds_toArray, List.set_cons_zero, List.set_cons_succ]
    refine wpAnyH_take (i := 8) (oi := { dst := some 124, op := _, type := _, pos := _, after := _, guard := _ }) (v := ?_) rfl (by kernel_rfl) (by kernel_rfl) (by kernel_rfl) (fun _ _ _ h => h) (Or.inl ⟨by rfl, ?_⟩) (by assumption) ?_
    rotate_left
    · intro w hSw
      first | (go_simp; done) | (go_simp; with_reducible rfl)
    try simp only [Act.put, List.setIfInBounds_toArray, List.set_cons_zero, List.set_cons_succ]
    refine wpAnyH_take (i := 9) (oi := { dst := some 125, op := _, type := _, pos := _, after := _, guard := _ }) (v := ?_) rfl (by kernel_rfl) (by kernel_rfl) (by kernel_rfl) (fun _ _ _ h => h) (Or.inl ⟨by rfl, ?_⟩) (by assumption) ?_
    rotate_left
    · intro w hSw
      first | (go_simp; done) | (go_simp; with_reducible rfl)
    try simp only [Act.put, List.setIfInBounds_toArray, List.set_cons_zero, List.set_cons_succ]
    refine wpAnyH_take (i := 10) (oi := { dst := some 126, op := _, type := _, pos := _, after := _, guard := _ }) (v := ?_) rfl (by kernel_rfl) (by kernel_rfl) (by kernel_rfl) (fun _ _ _ h => h) (Or.inl ⟨by rfl, ?_⟩) (by assumption) ?_
    rotate_left
    · intro w hSw
      first | (go_simp; done) | (go_simp; with_reducible rfl)
    try simp only [Act.put, List.setIfInBounds_toArray, List.set_cons_zero, List.set_cons_succ]
    refine wpAnyH_take (i := 11) (oi := { dst := some 127, op := _, type := _, pos := _, after := _, guard := _ }) (v := ?_) rfl (by kernel_rfl) (by kernel_rfl) (by kernel_rfl) (fun _ _ _ h => h) (Or.inl ⟨by rfl, ?_⟩) (by assumption) ?_
    rotate_left
    · intro w hSw
      first | (go_simp; done) | (go_simp; with_reducible rfl)
    try simp only [Act.put, List.setIfInBounds_toArray, List.set_cons_zero, List.set_cons_succ]
    refine wpAnyH_take (i := 12) (oi := { dst := some 128, op := _, type := _, pos := _, after := _, guard := _ }) (v := ?_) rfl (by kernel_rfl) (by kernel_rfl) (by kernel_rfl) (fun _ _ _ h => h) (Or.inl ⟨by rfl, ?_⟩) (by assumption) ?_
    rotate_left
    · intro w hSw
      first | (go_simp; done) | (go_simp; with_reducible rfl)
    try simp only [Act.put, List.setIfInBounds_toArray, List.set_cons_zero, List.set_cons_succ]
    refine wpAnyH_take (i := 13) (oi := { dst := some 129, op := _, type := _, pos := _, after := _, guard := _ }) (v := ?_) rfl (by kernel_rfl) (by kernel_rfl) (by kernel_rfl) (fun _ _ _ h => h) (Or.inl ⟨by rfl, ?_⟩) (by assumption) ?_
    rotate_left
    · intro w hSw
      have hT := (unhide HX).below hSw; have x0 := hT.cell 0 rfl; have x1 := hT.cell 1 rfl; have x2 := hT.cell 2 rfl; clear hT; have hT := (unhide HU).below hSw; have u0 := hT.cell 0 rfl; have u1 := hT.cell 1 rfl; have u2 := hT.cell 2 rfl; clear hT
      first | (go_simp; done) | (go_simp; with_reducible rfl)
    try simp only [Act.put, List.setIfInBounds_toArray, List.set_cons_zero, List.set_cons_succ]
    refine wpAnyH_take (i := 14) (oi := { dst := some 130, op := _, type := _, pos := _, after := _, guard := _ }) (v := ?_) rfl (by kernel_rfl) (by kernel_rfl) (by kernel_rfl) (fun _ _ _ h => h) (Or.inl ⟨by rfl, ?_⟩) (by assumption) ?_
    rotate_left
    · intro w hSw
      have hT := (unhide HX).below hSw; have x0 := hT.cell 0 rfl; have x1 := hT.cell 1 rfl; have x2 := hT.cell 2 rfl; clear hT; have hT := (unhide HU).below hSw; have u0 := hT.cell 0 rfl; have u1 := hT.cell 1 rfl; have u2 := hT.cell 2 rfl; clear hT
      first | (go_simp; done) | (go_simp; with_reducible rfl)
    try simp only [Act.put, List.setIfInBounds_toArray, List.set_cons_zero, List.set_cons_succ]
    refine wpAnyH_take (i := 15) (oi := { dst := some 131, op := _, type := _, pos := _, after := _, guard := _ }) (v := ?_) rfl (by kernel_rfl) (by kernel_rfl) (by kernel_rfl) (fun _ _ _ h => h) (Or.inl ⟨by rfl, ?_⟩) (by assumption) ?_
    rotate_left
    · intro w hSw
      first | (go_simp; done) | (go_simp; with_reducible rfl)
    try simp only [Act.put, List.setIfInBounds_toArray, List.set_cons_zero, List.set_cons_succ]
    refine wpAnyH_ready (rs := [16]) (by kernel_rfl) (by simp) ?_
    refine AllReadyH.cons (o := { dst := some 132, op := _, type := _, pos := _, after := _, guard := _ }) rfl (fun K hK => ?_) AllReadyH.nil
    go_simp
    go_at_call 29
    refine (c29 es al es.length capl _ rfl (by omega) ((unhide HR).bel HD)).mono ?_
    rintro e V2 ⟨v2, rfl, ho, hb⟩
    replace HD := below_then HD hb
    clear hb
    obtain ⟨al3, capl3, rfl, hcl3, hrl, -⟩ := ho.row
    clear ho
    rw [unhide HLL] at hcl3 ⊢
    try go_wp2_with fail
    refine hK.out _ _ HD (fun hHeld => ?_)
    clear hK K hHeld
    try simp only [Act.put, List.setIfInBounds_toArray, List.set_cons_zero, List.set_cons_succ]
    refine wpAnyH_ready (rs := [17]) (by kernel_rfl) (by simp) ?_
    refine AllReadyH.cons (o := { dst := some 133, op := _, type := _, pos := _, after := _, guard := _ }) rfl (fun K hK => ?_) AllReadyH.nil
    go_simp
    go_at_call 78
    refine (c78 (Tm.entLeaves es) _ es.length capl3 _ (unhide HLL) hcl3 (by omega) hrl).mono ?_
    rintro e V3 ⟨rfl, hb⟩
    replace hrl := hrl.bel hb
    replace HD := below_then HD hb
    clear hb
    rw [← unhide HE1]
    try go_wp2_with fail
    refine hK.out _ _ HD (fun hHeld => ?_)
    clear hK K hHeld
    try simp only [Act.put, List.setIfInBounds_toArray, List.set_cons_zero, List.set_cons_succ]
    refine wpAnyH_take (i := 18) (oi := { dst := some 134, op := _, type := _, pos := _, after := _, guard := _ }) (v := ?_) rfl (by kernel_rfl) (by kernel_rfl) (by kernel_rfl) (fun _ _ _ h => h) (Or.inl ⟨by rfl, ?_⟩) (by assumption) ?_
    rotate_left
    · intro w hSw
      first | (go_simp; done) | (go_simp; with_reducible rfl)
    try simp only [Act.put, List.setIfInBounds_toArray, List.set_cons_zero, List.set_cons_succ]
    refine wpAnyH_take (i := 19) (oi := { dst := some 135, op := _, type := _, pos := _, after := _, guard := _ }) (v := ?_) rfl (by kernel_rfl) (by kernel_rfl) (by kernel_rfl) (fun _ _ _ h => h) (Or.inl ⟨by rfl, ?_⟩) (by assumption) ?_
    rotate_left
    · intro w hSw
      first | (go_simp; done) | (go_simp; with_reducible rfl)
    try simp only [Act.put, List.setIfInBounds_toArray, List.set_cons_zero, List.set_cons_succ]
    refine wpAnyH_take (i := 20) (oi := { dst := some 136, op := _, type := _, pos := _, after := _, guard := _ }) (v := ?_) rfl (by kernel_rfl) (by kernel_rfl) (by kernel_rfl) (fun _ _ _ h => h) (Or.inl ⟨by rfl, ?_⟩) (by assumption) ?_
    rotate_left
    · intro w hSw
      first | (go_simp; done) | (go_simp; with_reducible rfl)
    try simp only [Act.put, List.setIfInBounds_toArray, List.set_cons_zero, List.set_cons_succ]
    refine wpAnyH_take (i := 21) (oi := { dst := some 137, op := _, type := _, pos := _, after := _, guard := _ }) (v := ?_) rfl (by kernel_rfl) (by kernel_rfl) (by kernel_rfl) (fun _ _ _ h => h) (Or.inl ⟨by rfl, ?_⟩) (by assumption) ?_
    rotate_left
    · intro w hSw
      have hT := (unhide HX).below hSw; have x0 := hT.cell 0 rfl; have x1 := hT.cell 1 rfl; have x2 := hT.cell 2 rfl; clear hT; have hT := (unhide HU).below hSw; have u0 := hT.cell 0 rfl; have u1 := hT.cell 1 rfl; have u2 := hT.cell 2 rfl; clear hT
      first | (go_simp; done) | (go_simp; with_reducible rfl)
    try simp only [Act.put, List.setIfInBounds_toArray, List.set_cons_zero, List.set_cons_succ]
    refine wpAnyH_take (i := 22) (oi := { dst := some 138, op := _, type := _, pos := _, after := _, guard := _ }) (v := ?_) rfl (by kernel_rfl) (by kernel_rfl) (by kernel_rfl) (fun _ _ _ h => h) (Or.inl ⟨by rfl, ?_⟩) (by assumption) ?_
    rotate_left
    · intro w hSw
      have hT := (unhide HX).below hSw; have x0 := hT.cell 0 rfl; have x1 := hT.cell 1 rfl; have x2 := hT.cell 2 rfl; clear hT; have hT := (unhide HU).below hSw; have u0 := hT.cell 0 rfl; have u1 := hT.cell 1 rfl; have u2 := hT.cell 2 rfl; clear hT
      first | (go_simp; done) | (go_simp; with_reducible rfl)
    try simp only [Act.put, List.setIfInBounds_toArray, List.set_cons_zero, List.set_cons_succ]
    refine wpAnyH_take (i := 23) (oi := { dst := some 139, op := _, type := _, pos := _, after := _, guard := _ }) (v := ?_) rfl (by kernel_rfl) (by kernel_rfl) (by kernel_rfl) (fun _ _ _ h => h) (Or.inl ⟨by rfl, ?_⟩) (by assumption) ?_
    rotate_left
    · intro w hSw
      first | (go_simp; done) | (go_simp; with_reducible rfl)
    try simp only [Act.put, List.setIfInBounds_toArray, List.set_cons_zero, List.set_cons_succ]
    refine wpAnyH_ready (rs := [24]) (by kernel_rfl) (by simp) ?_
    refine AllReadyH.cons (o := { dst := some 140, op := _, type := _, pos := _, after := _, guard := _ }) rfl (fun K hK => ?_) AllReadyH.nil
    go_simp
    go_at_call 53
    refine (c53 (foldRows es) _ _ capr _ rfl (by omega) ((unhide HW).bel HD)).mono ?_
    rintro e V4 ⟨rfl, hb⟩
    replace hrl := hrl.bel hb
    replace HD := below_then HD hb
    clear hb
    rw [← unhide HE2]
    try go_wp2_with fail
    refine hK.out _ _ HD (fun hHeld => ?_)
    clear hK K hHeld
    try simp only [Act.put, List.setIfInBounds_toArray, List.set_cons_zero, List.set_cons_succ]
    refine wpAnyH_take (i := 25) (oi := { dst := some 141, op := _, type := _, pos := _, after := _, guard := _ }) (v := ?_) rfl (by kernel_rfl) (by kernel_rfl) (by kernel_rfl) (fun _ _ _ h => h) (Or.inl ⟨by rfl, ?_⟩) (by assumption) ?_
    rotate_left
    · intro w hSw
      first | (go_simp; done) | (go_simp; with_reducible rfl)
    try simp only [Act.put, List.setIfInBounds_toArray, List.set_cons_zero, List.set_cons_succ]
    refine wpAnyH_take (i := 26) (oi := { dst := some 142, op := _, type := _, pos := _, after := _, guard := _ }) (v := ?_) rfl (by kernel_rfl) (by kernel_rfl) (by kernel_rfl) (fun _ _ _ h => h) (Or.inl ⟨by rfl, ?_⟩) (by assumption) ?_
    rotate_left
    · intro w hSw
      first | (go_simp; done) | (go_simp; with_reducible rfl)
    try simp only [Act.put, List.setIfInBounds_toArray, List.set_cons_zero, List.set_cons_succ]
    refine wpAnyH_take (i := 27) (oi := { dst := some 4, op := _, type := _, pos := _, after := _, guard := _ }) (v := ?_) rfl (by kernel_rfl) (by kernel_rfl) (by kernel_rfl) (fun _ _ _ h => h) (Or.inl ⟨by rfl, ?_⟩) (by assumption) ?_
    rotate_left
    · intro w hSw
      first | (go_simp; done) | (go_simp; with_reducible rfl)
    try simp only [Act.put, List.setIfInBounds_toArray, List.set_cons_zero, List.set_cons_succ]
    refine wpAnyH_done (by kernel_rfl) ?_ _
    replace HB := hide (below_tr (unhide HB) HD)
    replace HR := hide ((unhide HR).bel HD)
    replace HX := hide ((unhide HX).bel HD)
    replace HRL := hide ((unhide HRL).bel HD)
    replace HU := hide ((unhide HU).bel HD)
    replace HW := hide ((unhide HW).bel HD)
    have Hhrl := hide hrl
    clear HD hrl
    have x0 := (unhide HX).cell 0 rfl
    have x1 := (unhide HX).cell 1 rfl
    have x2 := (unhide HX).cell 2 rfl
    have u0 := (unhide HU).cell 0 rfl
    have u1 := (unhide HU).cell 1 rfl
    have u2 := (unhide HU).cell 2 rfl
    go_wp2_with fail
    go_ret
    exact ⟨rfl, unhide HB⟩
  subst hbb
  have hin : 0 ≤ t ∧ t ≤ (ls.length : Int) := by
    by_cases hin : 0 ≤ t ∧ t ≤ (ls.length : Int)
    · exact hin
    · have := (at_no hin).2.2.2; rw [unhide HB2] at this; cases this
  obtain ⟨hi1, hi2⟩ := hin
  obtain ⟨k, rfl⟩ := Int.eq_ofNat_of_zero_le hi1
  obtain ⟨f0, f1, f2, f3⟩ := at_yes (es := ls) (k := k) (by omega)
  rw [unhide HS2] at f0
  rw [unhide HL2] at f1
  rw [unhide HO2] at f2
  rw [unhide HB2] at f3
  have hlk : (ls.take k).length = k := by rw [List.length_take]; omega
  have hsk := (hed_yes f3.symm).1
  rw [← f0, hlk] at hsk
  subst hsk
  have HF0 := hide f0.symm
  have HF1 := hide f1.symm
  have HF2 := hide f2.symm
  have HF3 := hide f3.symm
  have HLK := hide hlk
  have hkc : (k : Int) ≤ (capl2 : Int) := by omega
  clear f0 f1 f2 f3 hlk
  go_wp2_with fail
  refine (c71 (ls.take k) al2 k capl2 _ (unhide HLK) (by omega) (by omega) ((unhide HRL).tk k)).mono ?_
  rintro e w7 ⟨rfl, hb⟩
  rw [unhide HF0, unhide HF1, unhide HF2, unhide HF3]
  clear x0 x1 x2 y0 y1 y2 u0 u1 u2 v0 v1 v2
  replace HB := hide (below_tr (unhide HB) hb)
  replace HR := hide ((unhide HR).bel hb)
  replace HX := hide ((unhide HX).bel hb)
  replace HY := hide ((unhide HY).bel hb)
  replace HRL := hide ((unhide HRL).bel hb)
  replace HU := hide ((unhide HU).bel hb)
  replace HV := hide ((unhide HV).bel hb)
  clear hb
  have x0 := (unhide HX).cell 0 rfl
  have x1 := (unhide HX).cell 1 rfl
  have x2 := (unhide HX).cell 2 rfl
  have y0 := (unhide HY).cell 0 rfl
  have y1 := (unhide HY).cell 1 rfl
  have y2 := (unhide HY).cell 2 rfl
  have u0 := (unhide HU).cell 0 rfl
  have u1 := (unhide HU).cell 1 rfl
  have u2 := (unhide HU).cell 2 rfl
  have v0 := (unhide HV).cell 0 rfl
  have v1 := (unhide HV).cell 1 rfl
  have v2 := (unhide HV).cell 2 rfl
  have hlt4 := (unhide HU).lt
  clear x0 x1 x2 y0 y1 y2 u0 u1 u2 v0 v1 v2
  clear HY HV
  have x0 := (unhide HX).cell 0 rfl
  have x1 := (unhide HX).cell 1 rfl
  have x2 := (unhide HX).cell 2 rfl
  have u0 := (unhide HU).cell 0 rfl
  have u1 := (unhide HU).cell 1 rfl
  have u2 := (unhide HU).cell 2 rfl
  clear x0 x1 x2 u0 u1 u2
  replace HB := hide (below_al (o := .cells #[.int .i64 (k : Int), .int .i64 l2, .int .i64 o2] 65) (unhide HB))
  replace HR := hide ((unhide HR).bel (below_a (.cells #[.int .i64 (k : Int), .int .i64 l2, .int .i64 o2] 65)))
  replace HX := hide ((unhide HX).bel (below_a (.cells #[.int .i64 (k : Int), .int .i64 l2, .int .i64 o2] 65)))
  replace HRL := hide ((unhide HRL).bel (below_a (.cells #[.int .i64 (k : Int), .int .i64 l2, .int .i64 o2] 65)))
  replace HU := hide ((unhide HU).bel (below_a (.cells #[.int .i64 (k : Int), .int .i64 l2, .int .i64 o2] 65)))
  have HV := hide (box_new w7 [.int .i64 (k : Int), .int .i64 l2, .int .i64 o2] 65 (by simp [Value.oneCell']))
  have x0 := (unhide HX).cell 0 rfl
  have x1 := (unhide HX).cell 1 rfl
  have x2 := (unhide HX).cell 2 rfl
  have u0 := (unhide HU).cell 0 rfl
  have u1 := (unhide HU).cell 1 rfl
  have u2 := (unhide HU).cell 2 rfl
  have v0 := (unhide HV).cell 0 rfl
  have v1 := (unhide HV).cell 1 rfl
  have v2 := (unhide HV).cell 2 rfl
  go_wp2_with fail
  clear x0 x1 x2 u0 u1 u2 v0 v1 v2
  clear HV
  have x0 := (unhide HX).cell 0 rfl
  have x1 := (unhide HX).cell 1 rfl
  have x2 := (unhide HX).cell 2 rfl
  have u0 := (unhide HU).cell 0 rfl
  have u1 := (unhide HU).cell 1 rfl
  have u2 := (unhide HU).cell 2 rfl
  refine (c48 es al es.length capl _ rfl (by omega) (unhide HR)).mono ?_
  rintro e w8 ⟨v9, rfl, ho, hb⟩
  rw [unhide HB1]
  obtain ⟨ar, capr, rfl, hcr, hrr, -⟩ := ho.row
  clear x0 x1 x2 u0 u1 u2
  replace HB := hide (below_tr (unhide HB) hb)
  replace HR := hide ((unhide HR).bel hb)
  replace HX := hide ((unhide HX).bel hb)
  replace HRL := hide ((unhide HRL).bel hb)
  replace HU := hide ((unhide HU).bel hb)
  have HW := hide (hrr)
  clear hb ho hrr
  have x0 := (unhide HX).cell 0 rfl
  have x1 := (unhide HX).cell 1 rfl
  have x2 := (unhide HX).cell 2 rfl
  have u0 := (unhide HU).cell 0 rfl
  have u1 := (unhide HU).cell 1 rfl
  have u2 := (unhide HU).cell 2 rfl
  have hl8 := foldRows_len es
  cases b1
  case false =>
    obtain ⟨e0, e1, e2⟩ := hed_no (unhide HB1)
    rw [unhide HS1] at e0
    rw [unhide HL1] at e1
    rw [unhide HO1] at e2
    subst e0 e1 e2
    go_wp2_with fail
    refine (c41 _).mono ?_
    rintro e w9 ⟨rfl, hww⟩
    have hww := hww.symm
    subst hww
    go_wp2_with fail
    go_ret
    exact ⟨rfl, unhide HB⟩
  obtain ⟨e0, e1, e2⟩ := hed_yes (unhide HB1)
  rw [unhide HS1] at e0
  rw [unhide HL1] at e1
  rw [unhide HO1] at e2
  have hok := hedOk_of (unhide HB1)
  rw [unhide HS1, unhide HL1, unhide HO1] at hok
  have HOK := hide hok
  have HE0 := hide e0
  have HE1 := hide e1
  have HE2 := hide e2
  have d0 : (s1 == (es.length : Int)) = true := by rw [beq_iff_eq]; exact e0
  have HLL := hide (entLeaves_ln es)
  clear e0 e1 e2 hok
  go_wp2_with fail
  clear x0 x1 x2 u0 u1 u2
  refine wp_region_held_drew (S := fun w' => Below w8.heap.size w8 w') (by kernel_rfl) (below_drew w8) (fun hHeld => ?_)
  refine wpAnyH_take (i := 0) (oi := { dst := some 116, op := _, type := _, pos := _, after := _, guard := _ }) (v := ?_) rfl (by kernel_rfl) (by kernel_rfl) (by kernel_rfl) (fun _ _ _ h => h) (Or.inl ⟨by rfl, ?_⟩) (by assumption) ?_
  rotate_left
  · intro w hSw
    first | (go_simp; done) | (go_simp; with_reducible rfl)
  try simp only [Act.put, List.setIfInBounds_toArray, List.set_cons_zero, List.set_cons_succ]
  refine wpAnyH_take (i := 1) (oi := { dst := some 117, op := _, type := _, pos := _, after := _, guard := _ }) (v := ?_) rfl (by kernel_rfl) (by kernel_rfl) (by kernel_rfl) (fun _ _ _ h => h) (Or.inl ⟨by rfl, ?_⟩) (by assumption) ?_
  rotate_left
  · intro w hSw
    first | (go_simp; done) | (go_simp; with_reducible rfl)
  try simp only [Act.put, List.setIfInBounds_toArray, List.set_cons_zero, List.set_cons_succ]
  refine wpAnyH_take (i := 2) (oi := { dst := some 118, op := _, type := _, pos := _, after := _, guard := _ }) (v := ?_) rfl (by kernel_rfl) (by kernel_rfl) (by kernel_rfl) (fun _ _ _ h => h) (Or.inl ⟨by rfl, ?_⟩) (by assumption) ?_
  rotate_left
  · intro w hSw
    have hT := (unhide HX).below hSw; have x0 := hT.cell 0 rfl; have x1 := hT.cell 1 rfl; have x2 := hT.cell 2 rfl; clear hT; have hT := (unhide HU).below hSw; have u0 := hT.cell 0 rfl; have u1 := hT.cell 1 rfl; have u2 := hT.cell 2 rfl; clear hT
    first | (go_simp; done) | (go_simp; with_reducible rfl)
  try simp only [Act.put, List.setIfInBounds_toArray, List.set_cons_zero, List.set_cons_succ]
  have HD := below_drew w8
  generalize w8.drew = V0 at *
  refine wpAnyH_ready (rs := [3]) (by kernel_rfl) (by simp) ?_
  refine AllReadyH.cons (o := { dst := some 119, op := _, type := _, pos := _, after := _, guard := _ }) rfl (fun K hK => ?_) AllReadyH.nil
  go_simp
  go_at_call 76
  refine (c76 s1 l1 o1 _).mono ?_
  rintro e V1 ⟨rfl, hb⟩
  replace HD := below_then HD hb
  clear hb
  rw [unhide HOK]
  try go_wp2_with fail
  refine hK.out _ _ HD (fun hHeld => ?_)
  clear hK K hHeld
  try simp only [Act.put, List.setIfInBounds_toArray, List.set_cons_zero, List.set_cons_succ]
  refine wpAnyH_take (i := 4) (oi := { dst := some 120, op := _, type := _, pos := _, after := _, guard := _ }) (v := ?_) rfl (by kernel_rfl) (by kernel_rfl) (by kernel_rfl) (fun _ _ _ h => h) (Or.inl ⟨by rfl, ?_⟩) (by assumption) ?_
  rotate_left
  · intro w hSw
    first | (go_simp; done) | (go_simp; with_reducible rfl)
  try simp only [Act.put, List.setIfInBounds_toArray, List.set_cons_zero, List.set_cons_succ]
  refine wpAnyH_take (i := 5) (oi := { dst := some 121, op := _, type := _, pos := _, after := _, guard := _ }) (v := ?_) rfl (by kernel_rfl) (by kernel_rfl) (by kernel_rfl) (fun _ _ _ h => h) (Or.inl ⟨by rfl, ?_⟩) (by assumption) ?_
  rotate_left
  · intro w hSw
    first | (go_simp; done) | (go_simp; with_reducible rfl)
  try simp only [Act.put, List.setIfInBounds_toArray, List.set_cons_zero, List.set_cons_succ]
  refine wpAnyH_take (i := 6) (oi := { dst := some 122, op := _, type := _, pos := _, after := _, guard := _ }) (v := ?_) rfl (by kernel_rfl) (by kernel_rfl) (by kernel_rfl) (fun _ _ _ h => h) (Or.inl ⟨by rfl, ?_⟩) (by assumption) ?_
  rotate_left
  · intro w hSw
    have hT := (unhide HX).below hSw; have x0 := hT.cell 0 rfl; have x1 := hT.cell 1 rfl; have x2 := hT.cell 2 rfl; clear hT; have hT := (unhide HU).below hSw; have u0 := hT.cell 0 rfl; have u1 := hT.cell 1 rfl; have u2 := hT.cell 2 rfl; clear hT
    first | (go_simp; done) | (go_simp; with_reducible rfl)
  try simp only [Act.put, List.setIfInBounds_toArray, List.set_cons_zero, List.set_cons_succ]
  refine wpAnyH_take (i := 7) (oi := { dst := some 123, op := _, type := _, pos := _, after := _, guard := _ }) (v := ?_) rfl (by kernel_rfl) (by kernel_rfl) (by kernel_rfl) (fun _ _ _ h => h) (Or.inl ⟨by rfl, ?_⟩) (by assumption) ?_
  rotate_left
  · intro w hSw
    have hT := (unhide HX).below hSw; have x0 := hT.cell 0 rfl; have x1 := hT.cell 1 rfl; have x2 := hT.cell 2 rfl; clear hT; have hT := (unhide HU).below hSw; have u0 := hT.cell 0 rfl; have u1 := hT.cell 1 rfl; have u2 := hT.cell 2 rfl; clear hT
    first | (go_simp; done) | (go_simp; with_reducible rfl)
  try simp only [Act.put, List.setIfInBounds_toArray, List.set_cons_zero, List.set_cons_succ]
  refine wpAnyH_take (i := 8) (oi := { dst := some 124, op := _, type := _, pos := _, after := _, guard := _ }) (v := ?_) rfl (by kernel_rfl) (by kernel_rfl) (by kernel_rfl) (fun _ _ _ h => h) (Or.inl ⟨by rfl, ?_⟩) (by assumption) ?_
  rotate_left
  · intro w hSw
    first | (go_simp; done) | (go_simp; with_reducible rfl)
  try simp only [Act.put, List.setIfInBounds_toArray, List.set_cons_zero, List.set_cons_succ]
  refine wpAnyH_take (i := 9) (oi := { dst := some 125, op := _, type := _, pos := _, after := _, guard := _ }) (v := ?_) rfl (by kernel_rfl) (by kernel_rfl) (by kernel_rfl) (fun _ _ _ h => h) (Or.inl ⟨by rfl, ?_⟩) (by assumption) ?_
  rotate_left
  · intro w hSw
    first | (go_simp; done) | (go_simp; with_reducible rfl)
  try simp only [Act.put, List.setIfInBounds_toArray, List.set_cons_zero, List.set_cons_succ]
  refine wpAnyH_take (i := 10) (oi := { dst := some 126, op := _, type := _, pos := _, after := _, guard := _ }) (v := ?_) rfl (by kernel_rfl) (by kernel_rfl) (by kernel_rfl) (fun _ _ _ h => h) (Or.inl ⟨by rfl, ?_⟩) (by assumption) ?_
  rotate_left
  · intro w hSw
    first | (go_simp; done) | (go_simp; with_reducible rfl)
  try simp only [Act.put, List.setIfInBounds_toArray, List.set_cons_zero, List.set_cons_succ]
  refine wpAnyH_take (i := 11) (oi := { dst := some 127, op := _, type := _, pos := _, after := _, guard := _ }) (v := ?_) rfl (by kernel_rfl) (by kernel_rfl) (by kernel_rfl) (fun _ _ _ h => h) (Or.inl ⟨by rfl, ?_⟩) (by assumption) ?_
  rotate_left
  · intro w hSw
    first | (go_simp; done) | (go_simp; with_reducible rfl)
  try simp only [Act.put, List.setIfInBounds_toArray, List.set_cons_zero, List.set_cons_succ]
  refine wpAnyH_take (i := 12) (oi := { dst := some 128, op := _, type := _, pos := _, after := _, guard := _ }) (v := ?_) rfl (by kernel_rfl) (by kernel_rfl) (by kernel_rfl) (fun _ _ _ h => h) (Or.inl ⟨by rfl, ?_⟩) (by assumption) ?_
  rotate_left
  · intro w hSw
    first | (go_simp; done) | (go_simp; with_reducible rfl)
  try simp only [Act.put, List.setIfInBounds_toArray, List.set_cons_zero, List.set_cons_succ]
  refine wpAnyH_take (i := 13) (oi := { dst := some 129, op := _, type := _, pos := _, after := _, guard := _ }) (v := ?_) rfl (by kernel_rfl) (by kernel_rfl) (by kernel_rfl) (fun _ _ _ h => h) (Or.inl ⟨by rfl, ?_⟩) (by assumption) ?_
  rotate_left
  · intro w hSw
    have hT := (unhide HX).below hSw; have x0 := hT.cell 0 rfl; have x1 := hT.cell 1 rfl; have x2 := hT.cell 2 rfl; clear hT; have hT := (unhide HU).below hSw; have u0 := hT.cell 0 rfl; have u1 := hT.cell 1 rfl; have u2 := hT.cell 2 rfl; clear hT
    first | (go_simp; done) | (go_simp; with_reducible rfl)
  try simp only [Act.put, List.setIfInBounds_toArray, List.set_cons_zero, List.set_cons_succ]
  refine wpAnyH_take (i := 14) (oi := { dst := some 130, op := _, type := _, pos := _, after := _, guard := _ }) (v := ?_) rfl (by kernel_rfl) (by kernel_rfl) (by kernel_rfl) (fun _ _ _ h => h) (Or.inl ⟨by rfl, ?_⟩) (by assumption) ?_
  rotate_left
  · intro w hSw
    have hT := (unhide HX).below hSw; have x0 := hT.cell 0 rfl; have x1 := hT.cell 1 rfl; have x2 := hT.cell 2 rfl; clear hT; have hT := (unhide HU).below hSw; have u0 := hT.cell 0 rfl; have u1 := hT.cell 1 rfl; have u2 := hT.cell 2 rfl; clear hT
    first | (go_simp; done) | (go_simp; with_reducible rfl)
  try simp only [Act.put, List.setIfInBounds_toArray, List.set_cons_zero, List.set_cons_succ]
  refine wpAnyH_take (i := 15) (oi := { dst := some 131, op := _, type := _, pos := _, after := _, guard := _ }) (v := ?_) rfl (by kernel_rfl) (by kernel_rfl) (by kernel_rfl) (fun _ _ _ h => h) (Or.inl ⟨by rfl, ?_⟩) (by assumption) ?_
  rotate_left
  · intro w hSw
    first | (go_simp; done) | (go_simp; with_reducible rfl)
  try simp only [Act.put, List.setIfInBounds_toArray, List.set_cons_zero, List.set_cons_succ]
  refine wpAnyH_ready (rs := [16]) (by kernel_rfl) (by simp) ?_
  refine AllReadyH.cons (o := { dst := some 132, op := _, type := _, pos := _, after := _, guard := _ }) rfl (fun K hK => ?_) AllReadyH.nil
  go_simp
  go_at_call 29
  refine (c29 es al es.length capl _ rfl (by omega) ((unhide HR).bel HD)).mono ?_
  rintro e V2 ⟨v2, rfl, ho, hb⟩
  replace HD := below_then HD hb
  clear hb
  obtain ⟨al3, capl3, rfl, hcl3, hrl, -⟩ := ho.row
  clear ho
  rw [unhide HLL] at hcl3 ⊢
  try go_wp2_with fail
  refine hK.out _ _ HD (fun hHeld => ?_)
  clear hK K hHeld
  try simp only [Act.put, List.setIfInBounds_toArray, List.set_cons_zero, List.set_cons_succ]
  refine wpAnyH_ready (rs := [17]) (by kernel_rfl) (by simp) ?_
  refine AllReadyH.cons (o := { dst := some 133, op := _, type := _, pos := _, after := _, guard := _ }) rfl (fun K hK => ?_) AllReadyH.nil
  go_simp
  go_at_call 78
  refine (c78 (Tm.entLeaves es) _ es.length capl3 _ (unhide HLL) hcl3 (by omega) hrl).mono ?_
  rintro e V3 ⟨rfl, hb⟩
  replace hrl := hrl.bel hb
  replace HD := below_then HD hb
  clear hb
  rw [← unhide HE1]
  try go_wp2_with fail
  refine hK.out _ _ HD (fun hHeld => ?_)
  clear hK K hHeld
  try simp only [Act.put, List.setIfInBounds_toArray, List.set_cons_zero, List.set_cons_succ]
  refine wpAnyH_take (i := 18) (oi := { dst := some 134, op := _, type := _, pos := _, after := _, guard := _ }) (v := ?_) rfl (by kernel_rfl) (by kernel_rfl) (by kernel_rfl) (fun _ _ _ h => h) (Or.inl ⟨by rfl, ?_⟩) (by assumption) ?_
  rotate_left
  · intro w hSw
    first | (go_simp; done) | (go_simp; with_reducible rfl)
  try simp only [Act.put, List.setIfInBounds_toArray, List.set_cons_zero, List.set_cons_succ]
  refine wpAnyH_take (i := 19) (oi := { dst := some 135, op := _, type := _, pos := _, after := _, guard := _ }) (v := ?_) rfl (by kernel_rfl) (by kernel_rfl) (by kernel_rfl) (fun _ _ _ h => h) (Or.inl ⟨by rfl, ?_⟩) (by assumption) ?_
  rotate_left
  · intro w hSw
    first | (go_simp; done) | (go_simp; with_reducible rfl)
  try simp only [Act.put, List.setIfInBounds_toArray, List.set_cons_zero, List.set_cons_succ]
  refine wpAnyH_take (i := 20) (oi := { dst := some 136, op := _, type := _, pos := _, after := _, guard := _ }) (v := ?_) rfl (by kernel_rfl) (by kernel_rfl) (by kernel_rfl) (fun _ _ _ h => h) (Or.inl ⟨by rfl, ?_⟩) (by assumption) ?_
  rotate_left
  · intro w hSw
    first | (go_simp; done) | (go_simp; with_reducible rfl)
  try simp only [Act.put, List.setIfInBounds_toArray, List.set_cons_zero, List.set_cons_succ]
  refine wpAnyH_take (i := 21) (oi := { dst := some 137, op := _, type := _, pos := _, after := _, guard := _ }) (v := ?_) rfl (by kernel_rfl) (by kernel_rfl) (by kernel_rfl) (fun _ _ _ h => h) (Or.inl ⟨by rfl, ?_⟩) (by assumption) ?_
  rotate_left
  · intro w hSw
    have hT := (unhide HX).below hSw; have x0 := hT.cell 0 rfl; have x1 := hT.cell 1 rfl; have x2 := hT.cell 2 rfl; clear hT; have hT := (unhide HU).below hSw; have u0 := hT.cell 0 rfl; have u1 := hT.cell 1 rfl; have u2 := hT.cell 2 rfl; clear hT
    first | (go_simp; done) | (go_simp; with_reducible rfl)
  try simp only [Act.put, List.setIfInBounds_toArray, List.set_cons_zero, List.set_cons_succ]
  refine wpAnyH_take (i := 22) (oi := { dst := some 138, op := _, type := _, pos := _, after := _, guard := _ }) (v := ?_) rfl (by kernel_rfl) (by kernel_rfl) (by kernel_rfl) (fun _ _ _ h => h) (Or.inl ⟨by rfl, ?_⟩) (by assumption) ?_
  rotate_left
  · intro w hSw
    have hT := (unhide HX).below hSw; have x0 := hT.cell 0 rfl; have x1 := hT.cell 1 rfl; have x2 := hT.cell 2 rfl; clear hT; have hT := (unhide HU).below hSw; have u0 := hT.cell 0 rfl; have u1 := hT.cell 1 rfl; have u2 := hT.cell 2 rfl; clear hT
    first | (go_simp; done) | (go_simp; with_reducible rfl)
  try simp only [Act.put, List.setIfInBounds_toArray, List.set_cons_zero, List.set_cons_succ]
  refine wpAnyH_take (i := 23) (oi := { dst := some 139, op := _, type := _, pos := _, after := _, guard := _ }) (v := ?_) rfl (by kernel_rfl) (by kernel_rfl) (by kernel_rfl) (fun _ _ _ h => h) (Or.inl ⟨by rfl, ?_⟩) (by assumption) ?_
  rotate_left
  · intro w hSw
    first | (go_simp; done) | (go_simp; with_reducible rfl)
  try simp only [Act.put, List.setIfInBounds_toArray, List.set_cons_zero, List.set_cons_succ]
  refine wpAnyH_ready (rs := [24]) (by kernel_rfl) (by simp) ?_
  refine AllReadyH.cons (o := { dst := some 140, op := _, type := _, pos := _, after := _, guard := _ }) rfl (fun K hK => ?_) AllReadyH.nil
  go_simp
  go_at_call 53
  refine (c53 (foldRows es) _ _ capr _ rfl (by omega) ((unhide HW).bel HD)).mono ?_
  rintro e V4 ⟨rfl, hb⟩
  replace hrl := hrl.bel hb
  replace HD := below_then HD hb
  clear hb
  rw [← unhide HE2]
  try go_wp2_with fail
  refine hK.out _ _ HD (fun hHeld => ?_)
  clear hK K hHeld
  try simp only [Act.put, List.setIfInBounds_toArray, List.set_cons_zero, List.set_cons_succ]
  refine wpAnyH_take (i := 25) (oi := { dst := some 141, op := _, type := _, pos := _, after := _, guard := _ }) (v := ?_) rfl (by kernel_rfl) (by kernel_rfl) (by kernel_rfl) (fun _ _ _ h => h) (Or.inl ⟨by rfl, ?_⟩) (by assumption) ?_
  rotate_left
  · intro w hSw
    first | (go_simp; done) | (go_simp; with_reducible rfl)
  try simp only [Act.put, List.setIfInBounds_toArray, List.set_cons_zero, List.set_cons_succ]
  refine wpAnyH_take (i := 26) (oi := { dst := some 142, op := _, type := _, pos := _, after := _, guard := _ }) (v := ?_) rfl (by kernel_rfl) (by kernel_rfl) (by kernel_rfl) (fun _ _ _ h => h) (Or.inl ⟨by rfl, ?_⟩) (by assumption) ?_
  rotate_left
  · intro w hSw
    first | (go_simp; done) | (go_simp; with_reducible rfl)
  try simp only [Act.put, List.setIfInBounds_toArray, List.set_cons_zero, List.set_cons_succ]
  refine wpAnyH_take (i := 27) (oi := { dst := some 4, op := _, type := _, pos := _, after := _, guard := _ }) (v := ?_) rfl (by kernel_rfl) (by kernel_rfl) (by kernel_rfl) (fun _ _ _ h => h) (Or.inl ⟨by rfl, ?_⟩) (by assumption) ?_
  rotate_left
  · intro w hSw
    first | (go_simp; done) | (go_simp; with_reducible rfl)
  try simp only [Act.put, List.setIfInBounds_toArray, List.set_cons_zero, List.set_cons_succ]
  refine wpAnyH_done (by kernel_rfl) ?_ _
  replace HB := hide (below_tr (unhide HB) HD)
  replace HR := hide ((unhide HR).bel HD)
  replace HX := hide ((unhide HX).bel HD)
  replace HRL := hide ((unhide HRL).bel HD)
  replace HU := hide ((unhide HU).bel HD)
  replace HW := hide ((unhide HW).bel HD)
  have Hhrl := hide hrl
  clear HD hrl
  have x0 := (unhide HX).cell 0 rfl
  have x1 := (unhide HX).cell 1 rfl
  have x2 := (unhide HX).cell 2 rfl
  have u0 := (unhide HU).cell 0 rfl
  have u1 := (unhide HU).cell 1 rfl
  have u2 := (unhide HU).cell 2 rfl
  go_wp2_with fail
  go_ret
  exact ⟨rfl, unhide HB⟩
end Go.Proofs.Ytimaidcjccakeaa
