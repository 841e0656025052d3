/-
  Heads: what the mathematics says of those that follow; the walk of the law FnHedFollows: at every code it answers true, and nothing that was there is written.
-/
import Derived.Test.YtimaidcjccakeaaLawshk
import Derived.Test.YtimaidcjccakeaaDhg
import Derived.Test.YtimaidcjccakeaaHedcs
namespace Go.Proofs.Ytimaidcjccakeaa
open Go.RowKit
set_option linter.unusedVariables false
set_option maxRecDepth 100000

theorem hm_take {ys : List Int} (h : Tm.treOk ys = true) (m : Nat) : Tm.treOk (ys.take m) = true := by
  obtain ⟨t1, t2⟩ := treOk_len h
  unfold Tm.treOk
  rw [decide_eq_true (by rw [List.length_take]; omega), Tm.okAll_take t2 m]; rfl
theorem hm_check {ys : List Int} {m : Nat} (hok : Tm.treOk ys = true) (h1 : 1 ≤ m) (h2 : m ≤ ys.length) : Tm.conCheck m (Tm.treRoot (ys.take m)) ys.length (Tm.treRoot ys) (Tm.con ys m true) = true := by
  obtain ⟨t1, t2⟩ := treOk_len hok
  have hb := Tm.both_con _ ys m true (Tm.root (ys.take m)) (Nat.le_refl _) t1 h1 h2 (fun _ => rfl)
  have hp : Tm.treOk (Tm.con ys m true) = true := by
    unfold Tm.treOk
    rw [decide_eq_true (by have := Tm.con_len7 (l := ys) (m := m) true t1 h1 h2; omega), Tm.con_ok _ ys m true (Nat.le_refl _) t1 h1 h2 t2]; rfl
  have o1 : Tm.okB (Tm.root (ys.take m)) = true := Tm.root_ok _ _ (Nat.le_refl _) (by rw [List.length_take]; omega) (Tm.okAll_take t2 m)
  have o2 : Tm.okB (Tm.root ys) = true := Tm.root_ok _ _ (Nat.le_refl _) t1 t2
  rw [root_of_ok hok, root_of_ok (hm_take hok m), conCheck_of ⟨by omega, by omega, by omega, by omega, o1, o2, hp⟩, hb]
  simp
theorem entLeaves_tk (es : List Tm.Ent) (k : Nat) : Tm.entLeaves (es.take k) = (Tm.entLeaves es).take k := by unfold Tm.entLeaves; rw [List.map_take]
theorem hm_size {es : List Tm.Ent} {k : Nat} (hk : k ≤ es.length) (h1 : foldIs (es.take k) = true) : hS (es.take k) = (k : Int) := by
  rw [(hed_yes h1).1, List.length_take, Nat.min_eq_left hk]
theorem hm_follows {es : List Tm.Ent} {k : Nat} (hk : k ≤ es.length) (h : foldIs es = true) (h1 : foldIs (es.take k) = true) :
    hedFollows (hS (es.take k)) (hL (es.take k)) (hO (es.take k)) (hS es) (hL es) (hO es) (hedProof es k) = true := by
  have o1 := hedOk_of h1
  have o2 := hedOk_of h
  have s1 := hm_size hk h1
  have s2 := (hed_yes h).1
  have hg : hedGrown (hS (es.take k)) (hL (es.take k)) (hS es) (hL es) (hedProof es k) = true := by
    by_cases h0 : k = 0
    · rw [grown0 (by rw [s1]; omega)]
      have : hedProof es k = [] := conProof_no (by omega)
      rw [this]; rfl
    · rw [grown1 (by rw [s1]; omega), s1, s2, (hed_yes h1).2.1, (hed_yes h).2.1, entLeaves_tk]
      have ho := entLeaves_treOk (foldIs_len h)
      have hp : hedProof es k = Tm.con (Tm.entLeaves es) k true := conProof_of ⟨ho, by omega, by rw [entLeaves_ln]; omega⟩
      rw [hp]
      have := hm_check (m := k) ho (by omega) (by rw [entLeaves_ln]; exact hk)
      rw [entLeaves_ln] at this
      exact this
  by_cases e : k = es.length
  · have e2 : es.take k = es := by rw [e]; exact List.take_length
    rw [e2] at o1 hg ⊢
    rw [hf6 o1 o1 rfl hg]; simp
  · exact hf5 o1 o2 (by rw [s1, s2]; omega) hg
theorem hm_back {es : List Tm.Ent} {k : Nat} (hk : k ≤ es.length) (h : foldIs es = true) (h1 : foldIs (es.take k) = true) :
    hedFollows (hS es) (hL es) (hO es) (hS (es.take k)) (hL (es.take k)) (hO (es.take k)) (hedProof es k) = (hS (es.take k) == hS es) := by
  have s1 := hm_size hk h1
  have s2 := (hed_yes h).1
  by_cases e : k = es.length
  · have e2 : es.take k = es := by rw [e]; exact List.take_length
    have hf := hm_follows hk h h1
    rw [e2] at hf ⊢
    rw [hf]; simp
  · rw [hf3 (by rw [s1, s2]; omega), s1, s2]
    symm
    rw [beq_eq_false_iff_ne]; omega
theorem hf_true {a b c a' b' c' : Int} {ps : List Int} (h : hedFollows a b c a' b' c' ps = true) : hedOk a b c = true ∧ hedOk a' b' c' = true ∧ a ≤ a' := by
  unfold hedFollows at h
  simp only [Bool.and_eq_true, decide_eq_true_eq] at h
  exact ⟨h.1, h.2.1, h.2.2.1⟩

set_option maxHeartbeats 8000000 in
theorem law11 (bs cs : List Int) (ao bo : Option Addr) (n cap m cap' : Nat) (w : World) (hn : bs.length = n) (hc : n ≤ cap) (hm : cap ≤ maxLen) (hB : Bytes w ao bs) (hn2 : cs.length = m) (hc2 : m ≤ cap') (hm2 : cap' ≤ maxLen) (hB2 : Bytes w bo cs) :
    Calls Try.prog 11 #[.slice ao n cap, .slice bo m cap'] w (Holds w) := by
  have HM := hide hm
  unfold maxLen at hm
  have HBY := hide hB
  have HN := hide hn
  have HB := hide (Below.refl w.heap.size w)
  have HM2 := hide hm2
  unfold maxLen at hm2
  have HBZ := hide hB2
  have HN2 := hide hn2
  clear hB hn hB2 hn2
  by_cases hbig : (1048576 : Int) < (n : Int)
  case pos =>
    go_enter Try.func11, Try.ntmps11
    go_wp2_with fail
    go_ret
    exact ⟨rfl, unhide HB⟩
  by_cases hbig2 : (1048576 : Int) < (m : Int)
  case pos =>
    go_enter Try.func11, Try.ntmps11
    go_wp2_with fail
    go_ret
    exact ⟨rfl, unhide HB⟩
  go_enter Try.func11, Try.ntmps11
  go_wp2_with fail
  refine (c79 bs ao n cap _ HN.out hc (unhide HM) (unhide HBY)).mono ?_
  rintro e w1 ⟨v, ls, t, rfl, hls, ht, ho, hb⟩
  obtain ⟨al, capl, rfl, hcl, hR1, -⟩ := ho.row
  replace HB := hide (below_tr (unhide HB) hb)
  replace HBZ := hide ((unhide HBZ).bel hb)
  clear HBY
  have HRL := hide (hR1)
  clear hb ho hR1
  go_wp2_with fail
  have hpl := hedProof_len ls t
  generalize hps : hedProof ls t = ps at *
  have HPS := hide hps
  clear hps
  refine (c80 ls t al ls.length capl _ rfl (by omega) (unhide HRL)).mono ?_
  rintro e w2 ⟨v, rfl, ho, hb⟩
  rw [unhide HPS] at ho
  obtain ⟨ap, capp, rfl, hcp, hrr, -⟩ := ho.row
  replace HB := hide (below_tr (unhide HB) hb)
  replace HBZ := hide ((unhide HBZ).bel hb)
  replace HRL := hide ((unhide HRL).bel hb)
  have HP := hide (hrr)
  clear hb ho hrr
  go_wp2_with fail
  refine (c81 ls t al ls.length capl _ rfl (by omega) (unhide HRL)).mono ?_
  rintro e w3 ⟨v, rfl, ho, hb⟩
  rw [unhide HPS] at ho
  obtain ⟨aq, capq, rfl, hcq, hrr, -⟩ := ho.row
  replace HB := hide (below_tr (unhide HB) hb)
  replace HBZ := hide ((unhide HBZ).bel hb)
  replace HRL := hide ((unhide HRL).bel hb)
  replace HP := hide ((unhide HP).bel hb)
  have HQ := hide (hrr)
  clear hb ho hrr
  go_wp2_with fail
  refine (dnB (c32 ps ps ap aq ps.length capp ps.length capq _ rfl rfl (by omega) (by omega) (unhide HP) (unhide HQ))).mono ?_
  rintro e w4 ⟨rfl, hb⟩
  rw [decide_eq_true (rfl : ps = ps)]
  replace HB := hide (below_tr (unhide HB) hb)
  replace HBZ := hide ((unhide HBZ).bel hb)
  replace HRL := hide ((unhide HRL).bel hb)
  replace HP := hide ((unhide HP).bel hb)
  clear HQ
  clear hb
  go_wp2_with fail
  have HAT := hide (fun h => at_true (es := ls) (i := t) h)
  generalize hs1 : aS ls t = s1 at *
  generalize hl1 : aL ls t = l1 at *
  generalize ho1 : aO ls t = o1 at *
  generalize hb1 : aI ls t = b1 at *
  generalize hs2 : hS ls = s2 at *
  generalize hl2 : hL ls = l2 at *
  generalize ho2 : hO ls = o2 at *
  generalize hb2 : foldIs ls = b2 at *
  have HS1 := hide hs1
  have HL1 := hide hl1
  have HO1 := hide ho1
  have HB1 := hide hb1
  have HS2 := hide hs2
  have HL2 := hide hl2
  have HO2 := hide ho2
  have HB2 := hide hb2
  clear hs1 hl1 ho1 hb1 hs2 hl2 ho2 hb2
  refine (c74 ls t al ls.length capl _ rfl hcl (by omega) (unhide HRL)).mono ?_
  rintro e w5 ⟨rfl, hb⟩
  rw [unhide HS1, unhide HL1, unhide HO1, unhide HB1]
  replace HB := hide (below_tr (unhide HB) hb)
  replace HBZ := hide ((unhide HBZ).bel hb)
  replace HRL := hide ((unhide HRL).bel hb)
  replace HP := hide ((unhide HP).bel hb)
  clear hb
  replace HB := hide (below_al (o := .cells #[.int .i64 s1, .int .i64 l1, .int .i64 o1] 65) (unhide HB))
  replace HBZ := hide ((unhide HBZ).bel (below_a (.cells #[.int .i64 s1, .int .i64 l1, .int .i64 o1] 65)))
  replace HRL := hide ((unhide HRL).bel (below_a (.cells #[.int .i64 s1, .int .i64 l1, .int .i64 o1] 65)))
  replace HP := hide ((unhide HP).bel (below_a (.cells #[.int .i64 s1, .int .i64 l1, .int .i64 o1] 65)))
  have HX := hide (box_new w5 [.int .i64 s1, .int .i64 l1, .int .i64 o1] 65 (by simp [Value.oneCell']))
  have x0 := (unhide HX).cell 0 rfl
  have x1 := (unhide HX).cell 1 rfl
  have x2 := (unhide HX).cell 2 rfl
  go_wp2_with fail
  refine (c71 ls al ls.length capl _ rfl hcl (by omega) (unhide HRL)).mono ?_
  rintro e w6 ⟨rfl, hb⟩
  rw [unhide HS2, unhide HL2, unhide HO2, unhide HB2]
  (try clear x0 x1 x2)
  replace HB := hide (below_tr (unhide HB) hb)
  replace HBZ := hide ((unhide HBZ).bel hb)
  replace HRL := hide ((unhide HRL).bel hb)
  replace HP := hide ((unhide HP).bel hb)
  replace HX := hide ((unhide HX).bel hb)
  clear hb
  have x0 := (unhide HX).cell 0 rfl
  have x1 := (unhide HX).cell 1 rfl
  have x2 := (unhide HX).cell 2 rfl
  have hlt1 := (unhide HX).lt
  (try clear x0 x1 x2)
  replace HB := hide (below_al (o := .cells #[.int .i64 s2, .int .i64 l2, .int .i64 o2] 65) (unhide HB))
  replace HBZ := hide ((unhide HBZ).bel (below_a (.cells #[.int .i64 s2, .int .i64 l2, .int .i64 o2] 65)))
  replace HRL := hide ((unhide HRL).bel (below_a (.cells #[.int .i64 s2, .int .i64 l2, .int .i64 o2] 65)))
  replace HP := hide ((unhide HP).bel (below_a (.cells #[.int .i64 s2, .int .i64 l2, .int .i64 o2] 65)))
  replace HX := hide ((unhide HX).bel (below_a (.cells #[.int .i64 s2, .int .i64 l2, .int .i64 o2] 65)))
  have HY := hide (box_new w6 [.int .i64 s2, .int .i64 l2, .int .i64 o2] 65 (by simp [Value.oneCell']))
  have x0 := (unhide HX).cell 0 rfl
  have x1 := (unhide HX).cell 1 rfl
  have x2 := (unhide HX).cell 2 rfl
  have y0 := (unhide HY).cell 0 rfl
  have y1 := (unhide HY).cell 1 rfl
  have y2 := (unhide HY).cell 2 rfl
  cases b1
  case false =>
    go_wp2_with fail
    generalize w6.alloc (.cells #[.int .i64 s2, .int .i64 l2, .int .i64 o2] 65) = W9 at *
    (try clear x0 x1 x2 y0 y1 y2)
    refine wp_region_held_drew (S := fun w' => Below W9.heap.size W9 w') (by kernel_rfl) (below_drew W9) (fun hHeld => ?_)
    refine wpAnyH_take (i := 0) (oi := { dst := some 49, op := _, type := _, pos := _, after := _, guard := _ }) (v := ?_) rfl (by kernel_rfl) (by kernel_rfl) (by kernel_rfl) (fun _ _ _ h => h) (Or.inl ⟨by rfl, ?_⟩) (by assumption) ?_
    rotate_left
    · intro w hSw
      first | (go_simp; done) | (go_simp; with_reducible rfl)
    try simp only [Act.put, List.setIfInBounds_toArray, List.set_cons_zero, List.set_cons_succ]
    refine wpAnyH_take (i := 1) (oi := { dst := some 50, op := _, type := _, pos := _, after := _, guard := _ }) (v := ?_) rfl (by kernel_rfl) (by kernel_rfl) (by kernel_rfl) (fun _ _ _ h => h) (Or.inl ⟨by rfl, ?_⟩) (by assumption) ?_
    rotate_left
    · intro w hSw
      first | (go_simp; done) | (go_simp; with_reducible rfl)
    try simp only [Act.put, List.setIfInBounds_toArray, List.set_cons_zero, List.set_cons_succ]
    refine wpAnyH_take (i := 2) (oi := { dst := some 51, op := _, type := _, pos := _, after := _, guard := _ }) (v := undef) rfl (by kernel_rfl) (by kernel_rfl) (by kernel_rfl) (fun _ _ _ h => h) (Or.inr ⟨by rfl, rfl⟩) (by assumption) ?_
    try simp only [Act.put, List.setIfInBounds_toArray, List.set_cons_zero, List.set_cons_succ]
    refine wpAnyH_take (i := 3) (oi := { dst := some 52, op := _, type := _, pos := _, after := _, guard := _ }) (v := ?_) rfl (by kernel_rfl) (by kernel_rfl) (by kernel_rfl) (fun _ _ _ h => h) (Or.inl ⟨by rfl, ?_⟩) (by assumption) ?_
    rotate_left
    · intro w hSw
      first | (go_simp; done) | (go_simp; with_reducible rfl)
    try simp only [Act.put, List.setIfInBounds_toArray, List.set_cons_zero, List.set_cons_succ]
    refine wpAnyH_take (i := 4) (oi := { dst := some 53, op := _, type := _, pos := _, after := _, guard := _ }) (v := ?_) rfl (by kernel_rfl) (by kernel_rfl) (by kernel_rfl) (fun _ _ _ h => h) (Or.inl ⟨by rfl, ?_⟩) (by assumption) ?_
    rotate_left
    · intro w hSw
      first | (go_simp; done) | (go_simp; with_reducible rfl)
    try simp only [Act.put, List.setIfInBounds_toArray, List.set_cons_zero, List.set_cons_succ]
    refine wpAnyH_take (i := 5) (oi := { dst := some 54, op := _, type := _, pos := _, after := _, guard := _ }) (v := undef) rfl (by kernel_rfl) (by kernel_rfl) (by kernel_rfl) (fun _ _ _ h => h) (Or.inr ⟨by rfl, rfl⟩) (by assumption) ?_
    try simp only [Act.put, List.setIfInBounds_toArray, List.set_cons_zero, List.set_cons_succ]
    refine wpAnyH_take (i := 6) (oi := { dst := some 55, op := _, type := _, pos := _, after := _, guard := _ }) (v := undef) rfl (by kernel_rfl) (by kernel_rfl) (by kernel_rfl) (fun _ _ _ h => h) (Or.inr ⟨by rfl, rfl⟩) (by assumption) ?_
    try simp only [Act.put, List.setIfInBounds_toArray, List.set_cons_zero, List.set_cons_succ]
    refine wpAnyH_take (i := 7) (oi := { dst := some 56, op := _, type := _, pos := _, after := _, guard := _ }) (v := undef) rfl (by kernel_rfl) (by kernel_rfl) (by kernel_rfl) (fun _ _ _ h => h) (Or.inr ⟨by rfl, rfl⟩) (by assumption) ?_
    try simp only [Act.put, List.setIfInBounds_toArray, List.set_cons_zero, List.set_cons_succ]
    have HD := below_drew W9
    generalize W9.drew = V0 at *
    refine wpAnyH_take (i := 8) (oi := { dst := some 57, op := _, type := _, pos := _, after := _, guard := _ }) (v := undef) rfl (by kernel_rfl) (by kernel_rfl) (by kernel_rfl) (fun _ _ _ h => h) (Or.inr ⟨by rfl, rfl⟩) (by assumption) ?_
    try simp only [Act.put, List.setIfInBounds_toArray, List.set_cons_zero, List.set_cons_succ]
    refine wpAnyH_take (i := 9) (oi := { dst := some 58, op := _, type := _, pos := _, after := _, guard := _ }) (v := undef) rfl (by kernel_rfl) (by kernel_rfl) (by kernel_rfl) (fun _ _ _ h => h) (Or.inr ⟨by rfl, rfl⟩) (by assumption) ?_
    try simp only [Act.put, List.setIfInBounds_toArray, List.set_cons_zero, List.set_cons_succ]
    refine wpAnyH_take (i := 10) (oi := { dst := some 59, op := _, type := _, pos := _, after := _, guard := _ }) (v := undef) rfl (by kernel_rfl) (by kernel_rfl) (by kernel_rfl) (fun _ _ _ h => h) (Or.inr ⟨by rfl, rfl⟩) (by assumption) ?_
    try simp only [Act.put, List.setIfInBounds_toArray, List.set_cons_zero, List.set_cons_succ]
    refine wpAnyH_take (i := 11) (oi := { dst := some 60, op := _, type := _, pos := _, after := _, guard := _ }) (v := undef) rfl (by kernel_rfl) (by kernel_rfl) (by kernel_rfl) (fun _ _ _ h => h) (Or.inr ⟨by rfl, rfl⟩) (by assumption) ?_
    try simp only [Act.put, List.setIfInBounds_toArray, List.set_cons_zero, List.set_cons_succ]
    refine wpAnyH_take (i := 12) (oi := { dst := some 61, op := _, type := _, pos := _, after := _, guard := _ }) (v := undef) rfl (by kernel_rfl) (by kernel_rfl) (by kernel_rfl) (fun _ _ _ h => h) (Or.inr ⟨by rfl, rfl⟩) (by assumption) ?_
    try simp only [Act.put, List.setIfInBounds_toArray, List.set_cons_zero, List.set_cons_succ]
    refine wpAnyH_take (i := 13) (oi := { dst := some 62, op := _, type := _, pos := _, after := _, guard := _ }) (v := undef) rfl (by kernel_rfl) (by kernel_rfl) (by kernel_rfl) (fun _ _ _ h => h) (Or.inr ⟨by rfl, rfl⟩) (by assumption) ?_
    try simp only [Act.put, List.setIfInBounds_toArray, List.set_cons_zero, List.set_cons_succ]
    refine wpAnyH_take (i := 15) (oi := { dst := some 64, op := _, type := _, pos := _, after := _, guard := _ }) (v := undef) rfl (by kernel_rfl) (by kernel_rfl) (by kernel_rfl) (fun _ _ _ h => h) (Or.inr ⟨by rfl, rfl⟩) (by assumption) ?_
    try simp only [Act.put, List.setIfInBounds_toArray, List.set_cons_zero, List.set_cons_succ]
    refine wpAnyH_take (i := 16) (oi := { dst := some 65, op := _, type := _, pos := _, after := _, guard := _ }) (v := undef) rfl (by kernel_rfl) (by kernel_rfl) (by kernel_rfl) (fun _ _ _ h => h) (Or.inr ⟨by rfl, rfl⟩) (by assumption) ?_
    try simp only [Act.put, List.setIfInBounds_toArray, List.set_cons_zero, List.set_cons_succ]
    refine wpAnyH_take (i := 17) (oi := { dst := some 66, op := _, type := _, pos := _, after := _, guard := _ }) (v := undef) rfl (by kernel_rfl) (by kernel_rfl) (by kernel_rfl) (fun _ _ _ h => h) (Or.inr ⟨by rfl, rfl⟩) (by assumption) ?_
    try simp only [Act.put, List.setIfInBounds_toArray, List.set_cons_zero, List.set_cons_succ]
    refine wpAnyH_take (i := 18) (oi := { dst := some 67, op := _, type := _, pos := _, after := _, guard := _ }) (v := undef) rfl (by kernel_rfl) (by kernel_rfl) (by kernel_rfl) (fun _ _ _ h => h) (Or.inr ⟨by rfl, rfl⟩) (by assumption) ?_
    try simp only [Act.put, List.setIfInBounds_toArray, List.set_cons_zero, List.set_cons_succ]
    refine wpAnyH_take (i := 19) (oi := { dst := some 68, op := _, type := _, pos := _, after := _, guard := _ }) (v := undef) rfl (by kernel_rfl) (by kernel_rfl) (by kernel_rfl) (fun _ _ _ h => h) (Or.inr ⟨by rfl, rfl⟩) (by assumption) ?_
    try simp only [Act.put, List.setIfInBounds_toArray, List.set_cons_zero, List.set_cons_succ]
    refine wpAnyH_take (i := 14) (oi := { dst := some 63, op := _, type := _, pos := _, after := _, guard := _ }) (v := undef) rfl (by kernel_rfl) (by kernel_rfl) (by kernel_rfl) (fun _ _ _ h => h) (Or.inr ⟨by rfl, rfl⟩) (by assumption) ?_
    try simp only [Act.put, List.setIfInBounds_toArray, List.set_cons_zero, List.set_cons_succ]
    refine wpAnyH_take (i := 20) (oi := { dst := some 69, op := _, type := _, pos := _, after := _, guard := _ }) (v := undef) rfl (by kernel_rfl) (by kernel_rfl) (by kernel_rfl) (fun _ _ _ h => h) (Or.inr ⟨by rfl, rfl⟩) (by assumption) ?_
    try simp only [Act.put, List.setIfInBounds_toArray, List.set_cons_zero, List.set_cons_succ]
    refine wpAnyH_take (i := 21) (oi := { dst := some 70, op := _, type := _, pos := _, after := _, guard := _ }) (v := undef) rfl (by kernel_rfl) (by kernel_rfl) (by kernel_rfl) (fun _ _ _ h => h) (Or.inr ⟨by rfl, rfl⟩) (by assumption) ?_
    try simp only [Act.put, List.setIfInBounds_toArray, List.set_cons_zero, List.set_cons_succ]
    refine wpAnyH_take (i := 22) (oi := { dst := some 71, op := _, type := _, pos := _, after := _, guard := _ }) (v := ?_) rfl (by kernel_rfl) (by kernel_rfl) (by kernel_rfl) (fun _ _ _ h => h) (Or.inl ⟨by rfl, ?_⟩) (by assumption) ?_
    rotate_left
    · intro w hSw
      first | (go_simp; done) | (go_simp; with_reducible rfl)
    try simp only [Act.put, List.setIfInBounds_toArray, List.set_cons_zero, List.set_cons_succ]
    refine wpAnyH_done (by kernel_rfl) ?_ _
    replace HB := hide (below_tr (unhide HB) HD)
    replace HBZ := hide ((unhide HBZ).bel HD)
    replace HRL := hide ((unhide HRL).bel HD)
    replace HP := hide ((unhide HP).bel HD)
    replace HX := hide ((unhide HX).bel HD)
    replace HY := hide ((unhide HY).bel HD)
    clear HD 
    have x0 := (unhide HX).cell 0 rfl
    have x1 := (unhide HX).cell 1 rfl
    have x2 := (unhide HX).cell 2 rfl
    have y0 := (unhide HY).cell 0 rfl
    have y1 := (unhide HY).cell 1 rfl
    have y2 := (unhide HY).cell 2 rfl
    clear hlt1
    (try clear x0 x1 x2 y0 y1 y2)
    clear HX HY HP
    clear HRL
    go_wp2_with fail
    refine (c83 cs bo m cap' _ HN2.out hc2 (unhide HM2) (unhide HBZ)).mono ?_
    rintro e u1 ⟨a, b, c, a', b', c', qs, aq, nq, capq, rfl, hq1, hq2, hq3, hrr, hb⟩
    replace HB := hide (below_tr (unhide HB) hb)
    clear HBZ
    have HQ := hide (hrr)
    clear hb hrr
    have HQN := hide hq1
    clear hq1
    replace HB := hide (below_al (o := .cells #[.int .i64 a, .int .i64 b, .int .i64 c] 65) (unhide HB))
    replace HQ := hide ((unhide HQ).bel (below_a (.cells #[.int .i64 a, .int .i64 b, .int .i64 c] 65)))
    have HX := hide (box_new u1 [.int .i64 a, .int .i64 b, .int .i64 c] 65 (by simp [Value.oneCell']))
    have x0 := (unhide HX).cell 0 rfl
    have x1 := (unhide HX).cell 1 rfl
    have x2 := (unhide HX).cell 2 rfl
    (try clear x0 x1 x2)
    replace HB := hide (below_al (o := .cells #[.int .i64 a', .int .i64 b', .int .i64 c'] 65) (unhide HB))
    replace HQ := hide ((unhide HQ).bel (below_a (.cells #[.int .i64 a', .int .i64 b', .int .i64 c'] 65)))
    replace HX := hide ((unhide HX).bel (below_a (.cells #[.int .i64 a', .int .i64 b', .int .i64 c'] 65)))
    have HY := hide (box_new (u1.alloc (.cells #[.int .i64 a, .int .i64 b, .int .i64 c] 65)) [.int .i64 a', .int .i64 b', .int .i64 c'] 65 (by simp [Value.oneCell']))
    (try simp only [World.size_alloc] at HY)
    have x0 := (unhide HX).cell 0 rfl
    have x1 := (unhide HX).cell 1 rfl
    have x2 := (unhide HX).cell 2 rfl
    have y0 := (unhide HY).cell 0 rfl
    have y1 := (unhide HY).cell 1 rfl
    have y2 := (unhide HY).cell 2 rfl
    go_wp2_with fail
    have HFT := hide (fun h => hf_true (a := a) (b := b) (c := c) (a' := a') (b' := b') (c' := c') (ps := qs) h)
    generalize hf : hedFollows a b c a' b' c' qs = f at *
    have HF := hide hf
    clear hf
    refine (c82 a b c a' b' c' qs aq nq capq _ (unhide HQN) hq2 (by omega) (unhide HQ)).mono ?_
    rintro e u2 ⟨rfl, hb⟩
    rw [unhide HF]
    (try clear x0 x1 x2 y0 y1 y2)
    replace HB := hide (below_tr (unhide HB) hb)
    replace HQ := hide ((unhide HQ).bel hb)
    replace HX := hide ((unhide HX).bel hb)
    replace HY := hide ((unhide HY).bel hb)
    clear hb
    have x0 := (unhide HX).cell 0 rfl
    have x1 := (unhide HX).cell 1 rfl
    have x2 := (unhide HX).cell 2 rfl
    have y0 := (unhide HY).cell 0 rfl
    have y1 := (unhide HY).cell 1 rfl
    have y2 := (unhide HY).cell 2 rfl
    go_wp2_with fail
    refine (c84 a b c a' b' c' qs aq nq capq _ (unhide HQN) hq2 (by omega) (unhide HQ)).mono ?_
    rintro e u3 ⟨rfl, hb⟩
    rw [unhide HF]
    (try clear x0 x1 x2 y0 y1 y2)
    replace HB := hide (below_tr (unhide HB) hb)
    replace HQ := hide ((unhide HQ).bel hb)
    replace HX := hide ((unhide HX).bel hb)
    replace HY := hide ((unhide HY).bel hb)
    clear hb
    have x0 := (unhide HX).cell 0 rfl
    have x1 := (unhide HX).cell 1 rfl
    have x2 := (unhide HX).cell 2 rfl
    have y0 := (unhide HY).cell 0 rfl
    have y1 := (unhide HY).cell 1 rfl
    have y2 := (unhide HY).cell 2 rfl
    cases f
    case false =>
      go_wp2_with fail
      refine (c41 _).mono ?_
      rintro e w10 ⟨rfl, hww⟩
      have hww := hww.symm
      subst hww
      go_wp2_with fail
      go_ret
      exact ⟨rfl, unhide HB⟩
    obtain ⟨f1, f2, f3⟩ := unhide HFT rfl
    have HF1 := hide f1
    have HF2 := hide f2
    clear f1 f2
    go_wp2_with fail
    refine (c76 a b c _).mono ?_
    rintro e u4 ⟨rfl, hb⟩
    rw [unhide HF1]
    (try clear x0 x1 x2 y0 y1 y2)
    replace HB := hide (below_tr (unhide HB) hb)
    replace HQ := hide ((unhide HQ).bel hb)
    replace HX := hide ((unhide HX).bel hb)
    replace HY := hide ((unhide HY).bel hb)
    clear hb
    have x0 := (unhide HX).cell 0 rfl
    have x1 := (unhide HX).cell 1 rfl
    have x2 := (unhide HX).cell 2 rfl
    have y0 := (unhide HY).cell 0 rfl
    have y1 := (unhide HY).cell 1 rfl
    have y2 := (unhide HY).cell 2 rfl
    go_wp2_with fail
    refine (c76 a' b' c' _).mono ?_
    rintro e u5 ⟨rfl, hb⟩
    rw [unhide HF2]
    (try clear x0 x1 x2 y0 y1 y2)
    replace HB := hide (below_tr (unhide HB) hb)
    replace HQ := hide ((unhide HQ).bel hb)
    replace HX := hide ((unhide HX).bel hb)
    replace HY := hide ((unhide HY).bel hb)
    clear hb
    have x0 := (unhide HX).cell 0 rfl
    have x1 := (unhide HX).cell 1 rfl
    have x2 := (unhide HX).cell 2 rfl
    have y0 := (unhide HY).cell 0 rfl
    have y1 := (unhide HY).cell 1 rfl
    have y2 := (unhide HY).cell 2 rfl
    go_wp2_with fail
    refine (c41 _).mono ?_
    rintro e w12 ⟨rfl, hww⟩
    have hww := hww.symm
    subst hww
    go_wp2_with fail
    go_ret
    exact ⟨rfl, unhide HB⟩
  cases b2
  case false =>
    go_wp2_with fail
    generalize w6.alloc (.cells #[.int .i64 s2, .int .i64 l2, .int .i64 o2] 65) = W9 at *
    (try clear x0 x1 x2 y0 y1 y2)
    refine wp_region_held_drew (S := fun w' => Below W9.heap.size W9 w') (by kernel_rfl) (below_drew W9) (fun hHeld => ?_)
    refine wpAnyH_take (i := 0) (oi := { dst := some 49, op := _, type := _, pos := _, after := _, guard := _ }) (v := ?_) rfl (by kernel_rfl) (by kernel_rfl) (by kernel_rfl) (fun _ _ _ h => h) (Or.inl ⟨by rfl, ?_⟩) (by assumption) ?_
    rotate_left
    · intro w hSw
      first | (go_simp; done) | (go_simp; with_reducible rfl)
    try simp only [Act.put, List.setIfInBounds_toArray, List.set_cons_zero, List.set_cons_succ]
    refine wpAnyH_take (i := 1) (oi := { dst := some 50, op := _, type := _, pos := _, after := _, guard := _ }) (v := ?_) rfl (by kernel_rfl) (by kernel_rfl) (by kernel_rfl) (fun _ _ _ h => h) (Or.inl ⟨by rfl, ?_⟩) (by assumption) ?_
    rotate_left
    · intro w hSw
      first | (go_simp; done) | (go_simp; with_reducible rfl)
    try simp only [Act.put, List.setIfInBounds_toArray, List.set_cons_zero, List.set_cons_succ]
    refine wpAnyH_take (i := 2) (oi := { dst := some 51, op := _, type := _, pos := _, after := _, guard := _ }) (v := ?_) rfl (by kernel_rfl) (by kernel_rfl) (by kernel_rfl) (fun _ _ _ h => h) (Or.inl ⟨by rfl, ?_⟩) (by assumption) ?_
    rotate_left
    · intro w hSw
      first | (go_simp; done) | (go_simp; with_reducible rfl)
    try simp only [Act.put, List.setIfInBounds_toArray, List.set_cons_zero, List.set_cons_succ]
    refine wpAnyH_take (i := 3) (oi := { dst := some 52, op := _, type := _, pos := _, after := _, guard := _ }) (v := ?_) rfl (by kernel_rfl) (by kernel_rfl) (by kernel_rfl) (fun _ _ _ h => h) (Or.inl ⟨by rfl, ?_⟩) (by assumption) ?_
    rotate_left
    · intro w hSw
      first | (go_simp; done) | (go_simp; with_reducible rfl)
    try simp only [Act.put, List.setIfInBounds_toArray, List.set_cons_zero, List.set_cons_succ]
    refine wpAnyH_take (i := 4) (oi := { dst := some 53, op := _, type := _, pos := _, after := _, guard := _ }) (v := ?_) rfl (by kernel_rfl) (by kernel_rfl) (by kernel_rfl) (fun _ _ _ h => h) (Or.inl ⟨by rfl, ?_⟩) (by assumption) ?_
    rotate_left
    · intro w hSw
      first | (go_simp; done) | (go_simp; with_reducible rfl)
    try simp only [Act.put, List.setIfInBounds_toArray, List.set_cons_zero, List.set_cons_succ]
    refine wpAnyH_take (i := 5) (oi := { dst := some 54, op := _, type := _, pos := _, after := _, guard := _ }) (v := undef) rfl (by kernel_rfl) (by kernel_rfl) (by kernel_rfl) (fun _ _ _ h => h) (Or.inr ⟨by rfl, rfl⟩) (by assumption) ?_
    try simp only [Act.put, List.setIfInBounds_toArray, List.set_cons_zero, List.set_cons_succ]
    refine wpAnyH_take (i := 6) (oi := { dst := some 55, op := _, type := _, pos := _, after := _, guard := _ }) (v := undef) rfl (by kernel_rfl) (by kernel_rfl) (by kernel_rfl) (fun _ _ _ h => h) (Or.inr ⟨by rfl, rfl⟩) (by assumption) ?_
    try simp only [Act.put, List.setIfInBounds_toArray, List.set_cons_zero, List.set_cons_succ]
    refine wpAnyH_take (i := 7) (oi := { dst := some 56, op := _, type := _, pos := _, after := _, guard := _ }) (v := undef) rfl (by kernel_rfl) (by kernel_rfl) (by kernel_rfl) (fun _ _ _ h => h) (Or.inr ⟨by rfl, rfl⟩) (by assumption) ?_
    try simp only [Act.put, List.setIfInBounds_toArray, List.set_cons_zero, List.set_cons_succ]
    have HD := below_drew W9
    generalize W9.drew = V0 at *
    refine wpAnyH_take (i := 8) (oi := { dst := some 57, op := _, type := _, pos := _, after := _, guard := _ }) (v := undef) rfl (by kernel_rfl) (by kernel_rfl) (by kernel_rfl) (fun _ _ _ h => h) (Or.inr ⟨by rfl, rfl⟩) (by assumption) ?_
    try simp only [Act.put, List.setIfInBounds_toArray, List.set_cons_zero, List.set_cons_succ]
    refine wpAnyH_take (i := 9) (oi := { dst := some 58, op := _, type := _, pos := _, after := _, guard := _ }) (v := undef) rfl (by kernel_rfl) (by kernel_rfl) (by kernel_rfl) (fun _ _ _ h => h) (Or.inr ⟨by rfl, rfl⟩) (by assumption) ?_
    try simp only [Act.put, List.setIfInBounds_toArray, List.set_cons_zero, List.set_cons_succ]
    refine wpAnyH_take (i := 10) (oi := { dst := some 59, op := _, type := _, pos := _, after := _, guard := _ }) (v := undef) rfl (by kernel_rfl) (by kernel_rfl) (by kernel_rfl) (fun _ _ _ h => h) (Or.inr ⟨by rfl, rfl⟩) (by assumption) ?_
    try simp only [Act.put, List.setIfInBounds_toArray, List.set_cons_zero, List.set_cons_succ]
    refine wpAnyH_take (i := 11) (oi := { dst := some 60, op := _, type := _, pos := _, after := _, guard := _ }) (v := undef) rfl (by kernel_rfl) (by kernel_rfl) (by kernel_rfl) (fun _ _ _ h => h) (Or.inr ⟨by rfl, rfl⟩) (by assumption) ?_
    try simp only [Act.put, List.setIfInBounds_toArray, List.set_cons_zero, List.set_cons_succ]
    refine wpAnyH_take (i := 12) (oi := { dst := some 61, op := _, type := _, pos := _, after := _, guard := _ }) (v := undef) rfl (by kernel_rfl) (by kernel_rfl) (by kernel_rfl) (fun _ _ _ h => h) (Or.inr ⟨by rfl, rfl⟩) (by assumption) ?_
    try simp only [Act.put, List.setIfInBounds_toArray, List.set_cons_zero, List.set_cons_succ]
    refine wpAnyH_take (i := 13) (oi := { dst := some 62, op := _, type := _, pos := _, after := _, guard := _ }) (v := undef) rfl (by kernel_rfl) (by kernel_rfl) (by kernel_rfl) (fun _ _ _ h => h) (Or.inr ⟨by rfl, rfl⟩) (by assumption) ?_
    try simp only [Act.put, List.setIfInBounds_toArray, List.set_cons_zero, List.set_cons_succ]
    refine wpAnyH_take (i := 15) (oi := { dst := some 64, op := _, type := _, pos := _, after := _, guard := _ }) (v := undef) rfl (by kernel_rfl) (by kernel_rfl) (by kernel_rfl) (fun _ _ _ h => h) (Or.inr ⟨by rfl, rfl⟩) (by assumption) ?_
    try simp only [Act.put, List.setIfInBounds_toArray, List.set_cons_zero, List.set_cons_succ]
    refine wpAnyH_take (i := 16) (oi := { dst := some 65, op := _, type := _, pos := _, after := _, guard := _ }) (v := undef) rfl (by kernel_rfl) (by kernel_rfl) (by kernel_rfl) (fun _ _ _ h => h) (Or.inr ⟨by rfl, rfl⟩) (by assumption) ?_
    try simp only [Act.put, List.setIfInBounds_toArray, List.set_cons_zero, List.set_cons_succ]
    refine wpAnyH_take (i := 17) (oi := { dst := some 66, op := _, type := _, pos := _, after := _, guard := _ }) (v := undef) rfl (by kernel_rfl) (by kernel_rfl) (by kernel_rfl) (fun _ _ _ h => h) (Or.inr ⟨by rfl, rfl⟩) (by assumption) ?_
    try simp only [Act.put, List.setIfInBounds_toArray, List.set_cons_zero, List.set_cons_succ]
    refine wpAnyH_take (i := 18) (oi := { dst := some 67, op := _, type := _, pos := _, after := _, guard := _ }) (v := undef) rfl (by kernel_rfl) (by kernel_rfl) (by kernel_rfl) (fun _ _ _ h => h) (Or.inr ⟨by rfl, rfl⟩) (by assumption) ?_
    try simp only [Act.put, List.setIfInBounds_toArray, List.set_cons_zero, List.set_cons_succ]
    refine wpAnyH_take (i := 19) (oi := { dst := some 68, op := _, type := _, pos := _, after := _, guard := _ }) (v := undef) rfl (by kernel_rfl) (by kernel_rfl) (by kernel_rfl) (fun _ _ _ h => h) (Or.inr ⟨by rfl, rfl⟩) (by assumption) ?_
    try simp only [Act.put, List.setIfInBounds_toArray, List.set_cons_zero, List.set_cons_succ]
    refine wpAnyH_take (i := 14) (oi := { dst := some 63, op := _, type := _, pos := _, after := _, guard := _ }) (v := undef) rfl (by kernel_rfl) (by kernel_rfl) (by kernel_rfl) (fun _ _ _ h => h) (Or.inr ⟨by rfl, rfl⟩) (by assumption) ?_
    try simp only [Act.put, List.setIfInBounds_toArray, List.set_cons_zero, List.set_cons_succ]
    refine wpAnyH_take (i := 20) (oi := { dst := some 69, op := _, type := _, pos := _, after := _, guard := _ }) (v := undef) rfl (by kernel_rfl) (by kernel_rfl) (by kernel_rfl) (fun _ _ _ h => h) (Or.inr ⟨by rfl, rfl⟩) (by assumption) ?_
    try simp only [Act.put, List.setIfInBounds_toArray, List.set_cons_zero, List.set_cons_succ]
    refine wpAnyH_take (i := 21) (oi := { dst := some 70, op := _, type := _, pos := _, after := _, guard := _ }) (v := undef) rfl (by kernel_rfl) (by kernel_rfl) (by kernel_rfl) (fun _ _ _ h => h) (Or.inr ⟨by rfl, rfl⟩) (by assumption) ?_
    try simp only [Act.put, List.setIfInBounds_toArray, List.set_cons_zero, List.set_cons_succ]
    refine wpAnyH_take (i := 22) (oi := { dst := some 71, op := _, type := _, pos := _, after := _, guard := _ }) (v := ?_) rfl (by kernel_rfl) (by kernel_rfl) (by kernel_rfl) (fun _ _ _ h => h) (Or.inl ⟨by rfl, ?_⟩) (by assumption) ?_
    rotate_left
    · intro w hSw
      first | (go_simp; done) | (go_simp; with_reducible rfl)
    try simp only [Act.put, List.setIfInBounds_toArray, List.set_cons_zero, List.set_cons_succ]
    refine wpAnyH_done (by kernel_rfl) ?_ _
    replace HB := hide (below_tr (unhide HB) HD)
    replace HBZ := hide ((unhide HBZ).bel HD)
    replace HRL := hide ((unhide HRL).bel HD)
    replace HP := hide ((unhide HP).bel HD)
    replace HX := hide ((unhide HX).bel HD)
    replace HY := hide ((unhide HY).bel HD)
    clear HD 
    have x0 := (unhide HX).cell 0 rfl
    have x1 := (unhide HX).cell 1 rfl
    have x2 := (unhide HX).cell 2 rfl
    have y0 := (unhide HY).cell 0 rfl
    have y1 := (unhide HY).cell 1 rfl
    have y2 := (unhide HY).cell 2 rfl
    clear hlt1
    (try clear x0 x1 x2 y0 y1 y2)
    clear HX HY HP
    clear HRL
    go_wp2_with fail
    refine (c83 cs bo m cap' _ HN2.out hc2 (unhide HM2) (unhide HBZ)).mono ?_
    rintro e u1 ⟨a, b, c, a', b', c', qs, aq, nq, capq, rfl, hq1, hq2, hq3, hrr, hb⟩
    replace HB := hide (below_tr (unhide HB) hb)
    clear HBZ
    have HQ := hide (hrr)
    clear hb hrr
    have HQN := hide hq1
    clear hq1
    replace HB := hide (below_al (o := .cells #[.int .i64 a, .int .i64 b, .int .i64 c] 65) (unhide HB))
    replace HQ := hide ((unhide HQ).bel (below_a (.cells #[.int .i64 a, .int .i64 b, .int .i64 c] 65)))
    have HX := hide (box_new u1 [.int .i64 a, .int .i64 b, .int .i64 c] 65 (by simp [Value.oneCell']))
    have x0 := (unhide HX).cell 0 rfl
    have x1 := (unhide HX).cell 1 rfl
    have x2 := (unhide HX).cell 2 rfl
    (try clear x0 x1 x2)
    replace HB := hide (below_al (o := .cells #[.int .i64 a', .int .i64 b', .int .i64 c'] 65) (unhide HB))
    replace HQ := hide ((unhide HQ).bel (below_a (.cells #[.int .i64 a', .int .i64 b', .int .i64 c'] 65)))
    replace HX := hide ((unhide HX).bel (below_a (.cells #[.int .i64 a', .int .i64 b', .int .i64 c'] 65)))
    have HY := hide (box_new (u1.alloc (.cells #[.int .i64 a, .int .i64 b, .int .i64 c] 65)) [.int .i64 a', .int .i64 b', .int .i64 c'] 65 (by simp [Value.oneCell']))
    (try simp only [World.size_alloc] at HY)
    have x0 := (unhide HX).cell 0 rfl
    have x1 := (unhide HX).cell 1 rfl
    have x2 := (unhide HX).cell 2 rfl
    have y0 := (unhide HY).cell 0 rfl
    have y1 := (unhide HY).cell 1 rfl
    have y2 := (unhide HY).cell 2 rfl
    go_wp2_with fail
    have HFT := hide (fun h => hf_true (a := a) (b := b) (c := c) (a' := a') (b' := b') (c' := c') (ps := qs) h)
    generalize hf : hedFollows a b c a' b' c' qs = f at *
    have HF := hide hf
    clear hf
    refine (c82 a b c a' b' c' qs aq nq capq _ (unhide HQN) hq2 (by omega) (unhide HQ)).mono ?_
    rintro e u2 ⟨rfl, hb⟩
    rw [unhide HF]
    (try clear x0 x1 x2 y0 y1 y2)
    replace HB := hide (below_tr (unhide HB) hb)
    replace HQ := hide ((unhide HQ).bel hb)
    replace HX := hide ((unhide HX).bel hb)
    replace HY := hide ((unhide HY).bel hb)
    clear hb
    have x0 := (unhide HX).cell 0 rfl
    have x1 := (unhide HX).cell 1 rfl
    have x2 := (unhide HX).cell 2 rfl
    have y0 := (unhide HY).cell 0 rfl
    have y1 := (unhide HY).cell 1 rfl
    have y2 := (unhide HY).cell 2 rfl
    go_wp2_with fail
    refine (c84 a b c a' b' c' qs aq nq capq _ (unhide HQN) hq2 (by omega) (unhide HQ)).mono ?_
    rintro e u3 ⟨rfl, hb⟩
    rw [unhide HF]
    (try clear x0 x1 x2 y0 y1 y2)
    replace HB := hide (below_tr (unhide HB) hb)
    replace HQ := hide ((unhide HQ).bel hb)
    replace HX := hide ((unhide HX).bel hb)
    replace HY := hide ((unhide HY).bel hb)
    clear hb
    have x0 := (unhide HX).cell 0 rfl
    have x1 := (unhide HX).cell 1 rfl
    have x2 := (unhide HX).cell 2 rfl
    have y0 := (unhide HY).cell 0 rfl
    have y1 := (unhide HY).cell 1 rfl
    have y2 := (unhide HY).cell 2 rfl
    cases f
    case false =>
      go_wp2_with fail
      refine (c41 _).mono ?_
      rintro e w10 ⟨rfl, hww⟩
      have hww := hww.symm
      subst hww
      go_wp2_with fail
      go_ret
      exact ⟨rfl, unhide HB⟩
    obtain ⟨f1, f2, f3⟩ := unhide HFT rfl
    have HF1 := hide f1
    have HF2 := hide f2
    clear f1 f2
    go_wp2_with fail
    refine (c76 a b c _).mono ?_
    rintro e u4 ⟨rfl, hb⟩
    rw [unhide HF1]
    (try clear x0 x1 x2 y0 y1 y2)
    replace HB := hide (below_tr (unhide HB) hb)
    replace HQ := hide ((unhide HQ).bel hb)
    replace HX := hide ((unhide HX).bel hb)
    replace HY := hide ((unhide HY).bel hb)
    clear hb
    have x0 := (unhide HX).cell 0 rfl
    have x1 := (unhide HX).cell 1 rfl
    have x2 := (unhide HX).cell 2 rfl
    have y0 := (unhide HY).cell 0 rfl
    have y1 := (unhide HY).cell 1 rfl
    have y2 := (unhide HY).cell 2 rfl
    go_wp2_with fail
    refine (c76 a' b' c' _).mono ?_
    rintro e u5 ⟨rfl, hb⟩
    rw [unhide HF2]
    (try clear x0 x1 x2 y0 y1 y2)
    replace HB := hide (below_tr (unhide HB) hb)
    replace HQ := hide ((unhide HQ).bel hb)
    replace HX := hide ((unhide HX).bel hb)
    replace HY := hide ((unhide HY).bel hb)
    clear hb
    have x0 := (unhide HX).cell 0 rfl
    have x1 := (unhide HX).cell 1 rfl
    have x2 := (unhide HX).cell 2 rfl
    have y0 := (unhide HY).cell 0 rfl
    have y1 := (unhide HY).cell 1 rfl
    have y2 := (unhide HY).cell 2 rfl
    go_wp2_with fail
    refine (c41 _).mono ?_
    rintro e w12 ⟨rfl, hww⟩
    have hww := hww.symm
    subst hww
    go_wp2_with fail
    go_ret
    exact ⟨rfl, unhide HB⟩
  obtain ⟨e0, k, hk, e1, e2⟩ := unhide HAT rfl
  obtain ⟨f0, f1, f2, f3⟩ := at_yes (es := ls) hk
  rw [← e1, unhide HS1] at f0
  rw [← e1, unhide HL1] at f1
  rw [← e1, unhide HO1] at f2
  have g1 := hm_follows hk (unhide HB2) e2
  have g2 := hm_back hk (unhide HB2) e2
  rw [← f0, ← f1, ← f2, unhide HS2, unhide HL2, unhide HO2, ← e1, unhide HPS] at g1 g2
  have HG1 := hide g1
  have HG2 := hide g2
  clear f0 f1 f2 f3 g1 g2 e0 e2
  go_wp2_with fail
  generalize w6.alloc (.cells #[.int .i64 s2, .int .i64 l2, .int .i64 o2] 65) = W9 at *
  (try clear x0 x1 x2 y0 y1 y2)
  refine wp_region_held_drew (S := fun w' => Below W9.heap.size W9 w') (by kernel_rfl) (below_drew W9) (fun hHeld => ?_)
  refine wpAnyH_take (i := 0) (oi := { dst := some 49, op := _, type := _, pos := _, after := _, guard := _ }) (v := ?_) rfl (by kernel_rfl) (by kernel_rfl) (by kernel_rfl) (fun _ _ _ h => h) (Or.inl ⟨by rfl, ?_⟩) (by assumption) ?_
  rotate_left
  · intro w hSw
    first | (go_simp; done) | (go_simp; with_reducible rfl)
  try simp only [Act.put, List.setIfInBounds_toArray, List.set_cons_zero, List.set_cons_succ]
  refine wpAnyH_take (i := 1) (oi := { dst := some 50, op := _, type := _, pos := _, after := _, guard := _ }) (v := ?_) rfl (by kernel_rfl) (by kernel_rfl) (by kernel_rfl) (fun _ _ _ h => h) (Or.inl ⟨by rfl, ?_⟩) (by assumption) ?_
  rotate_left
  · intro w hSw
    first | (go_simp; done) | (go_simp; with_reducible rfl)
  try simp only [Act.put, List.setIfInBounds_toArray, List.set_cons_zero, List.set_cons_succ]
  refine wpAnyH_take (i := 2) (oi := { dst := some 51, op := _, type := _, pos := _, after := _, guard := _ }) (v := ?_) rfl (by kernel_rfl) (by kernel_rfl) (by kernel_rfl) (fun _ _ _ h => h) (Or.inl ⟨by rfl, ?_⟩) (by assumption) ?_
  rotate_left
  · intro w hSw
    first | (go_simp; done) | (go_simp; with_reducible rfl)
  try simp only [Act.put, List.setIfInBounds_toArray, List.set_cons_zero, List.set_cons_succ]
  refine wpAnyH_take (i := 3) (oi := { dst := some 52, op := _, type := _, pos := _, after := _, guard := _ }) (v := ?_) rfl (by kernel_rfl) (by kernel_rfl) (by kernel_rfl) (fun _ _ _ h => h) (Or.inl ⟨by rfl, ?_⟩) (by assumption) ?_
  rotate_left
  · intro w hSw
    first | (go_simp; done) | (go_simp; with_reducible rfl)
  try simp only [Act.put, List.setIfInBounds_toArray, List.set_cons_zero, List.set_cons_succ]
  refine wpAnyH_take (i := 4) (oi := { dst := some 53, op := _, type := _, pos := _, after := _, guard := _ }) (v := ?_) rfl (by kernel_rfl) (by kernel_rfl) (by kernel_rfl) (fun _ _ _ h => h) (Or.inl ⟨by rfl, ?_⟩) (by assumption) ?_
  rotate_left
  · intro w hSw
    first | (go_simp; done) | (go_simp; with_reducible rfl)
  try simp only [Act.put, List.setIfInBounds_toArray, List.set_cons_zero, List.set_cons_succ]
  refine wpAnyH_take (i := 5) (oi := { dst := some 54, op := _, type := _, pos := _, after := _, guard := _ }) (v := ?_) rfl (by kernel_rfl) (by kernel_rfl) (by kernel_rfl) (fun _ _ _ h => h) (Or.inl ⟨by rfl, ?_⟩) (by assumption) ?_
  rotate_left
  · intro w hSw
    have hT := (unhide HX).below hSw; have x0 := hT.cell 0 rfl; have x1 := hT.cell 1 rfl; have x2 := hT.cell 2 rfl; clear hT; have hT := (unhide HY).below hSw; have y0 := hT.cell 0 rfl; have y1 := hT.cell 1 rfl; have y2 := hT.cell 2 rfl; clear hT
    first | (go_simp; done) | (go_simp; with_reducible rfl)
  try simp only [Act.put, List.setIfInBounds_toArray, List.set_cons_zero, List.set_cons_succ]
  refine wpAnyH_take (i := 6) (oi := { dst := some 55, op := _, type := _, pos := _, after := _, guard := _ }) (v := ?_) rfl (by kernel_rfl) (by kernel_rfl) (by kernel_rfl) (fun _ _ _ h => h) (Or.inl ⟨by rfl, ?_⟩) (by assumption) ?_
  rotate_left
  · intro w hSw
    have hT := (unhide HX).below hSw; have x0 := hT.cell 0 rfl; have x1 := hT.cell 1 rfl; have x2 := hT.cell 2 rfl; clear hT; have hT := (unhide HY).below hSw; have y0 := hT.cell 0 rfl; have y1 := hT.cell 1 rfl; have y2 := hT.cell 2 rfl; clear hT
    first | (go_simp; done) | (go_simp; with_reducible rfl)
  try simp only [Act.put, List.setIfInBounds_toArray, List.set_cons_zero, List.set_cons_succ]
  refine wpAnyH_take (i := 7) (oi := { dst := some 56, op := _, type := _, pos := _, after := _, guard := _ }) (v := ?_) rfl (by kernel_rfl) (by kernel_rfl) (by kernel_rfl) (fun _ _ _ h => h) (Or.inl ⟨by rfl, ?_⟩) (by assumption) ?_
  rotate_left
  · intro w hSw
    first | (go_simp; done) | (go_simp; with_reducible rfl)
  try simp only [Act.put, List.setIfInBounds_toArray, List.set_cons_zero, List.set_cons_succ]
  have HD := below_drew W9
  generalize W9.drew = V0 at *
  refine wpAnyH_ready (rs := [8]) (by kernel_rfl) (by simp) ?_
  refine AllReadyH.cons (o := { dst := some 57, op := _, type := _, pos := _, after := _, guard := _ }) rfl (fun K hK => ?_) AllReadyH.nil
  go_simp
  go_at_call 82
  refine (c82 s1 l1 o1 s2 l2 o2 ps ap ps.length capp _ rfl hcp (by omega) ((unhide HP).bel HD)).mono ?_
  rintro e V1 ⟨rfl, hb⟩
  replace HD := below_then HD hb
  clear hb
  rw [unhide HG1]
  try go_wp2_with fail
  refine hK.out _ _ HD (fun hHeld => ?_)
  clear hK K hHeld
  try simp only [Act.put, List.setIfInBounds_toArray, List.set_cons_zero, List.set_cons_succ]
  refine wpAnyH_take (i := 9) (oi := { dst := some 58, op := _, type := _, pos := _, after := _, guard := _ }) (v := ?_) rfl (by kernel_rfl) (by kernel_rfl) (by kernel_rfl) (fun _ _ _ h => h) (Or.inl ⟨by rfl, ?_⟩) (by assumption) ?_
  rotate_left
  · intro w hSw
    first | (go_simp; done) | (go_simp; with_reducible rfl)
  try simp only [Act.put, List.setIfInBounds_toArray, List.set_cons_zero, List.set_cons_succ]
  refine wpAnyH_take (i := 10) (oi := { dst := some 59, op := _, type := _, pos := _, after := _, guard := _ }) (v := ?_) rfl (by kernel_rfl) (by kernel_rfl) (by kernel_rfl) (fun _ _ _ h => h) (Or.inl ⟨by rfl, ?_⟩) (by assumption) ?_
  rotate_left
  · intro w hSw
    first | (go_simp; done) | (go_simp; with_reducible rfl)
  try simp only [Act.put, List.setIfInBounds_toArray, List.set_cons_zero, List.set_cons_succ]
  refine wpAnyH_take (i := 11) (oi := { dst := some 60, op := _, type := _, pos := _, after := _, guard := _ }) (v := ?_) rfl (by kernel_rfl) (by kernel_rfl) (by kernel_rfl) (fun _ _ _ h => h) (Or.inl ⟨by rfl, ?_⟩) (by assumption) ?_
  rotate_left
  · intro w hSw
    have hT := (unhide HX).below hSw; have x0 := hT.cell 0 rfl; have x1 := hT.cell 1 rfl; have x2 := hT.cell 2 rfl; clear hT; have hT := (unhide HY).below hSw; have y0 := hT.cell 0 rfl; have y1 := hT.cell 1 rfl; have y2 := hT.cell 2 rfl; clear hT
    first | (go_simp; done) | (go_simp; with_reducible rfl)
  try simp only [Act.put, List.setIfInBounds_toArray, List.set_cons_zero, List.set_cons_succ]
  refine wpAnyH_take (i := 12) (oi := { dst := some 61, op := _, type := _, pos := _, after := _, guard := _ }) (v := ?_) rfl (by kernel_rfl) (by kernel_rfl) (by kernel_rfl) (fun _ _ _ h => h) (Or.inl ⟨by rfl, ?_⟩) (by assumption) ?_
  rotate_left
  · intro w hSw
    have hT := (unhide HX).below hSw; have x0 := hT.cell 0 rfl; have x1 := hT.cell 1 rfl; have x2 := hT.cell 2 rfl; clear hT; have hT := (unhide HY).below hSw; have y0 := hT.cell 0 rfl; have y1 := hT.cell 1 rfl; have y2 := hT.cell 2 rfl; clear hT
    first | (go_simp; done) | (go_simp; with_reducible rfl)
  try simp only [Act.put, List.setIfInBounds_toArray, List.set_cons_zero, List.set_cons_succ]
  refine wpAnyH_take (i := 13) (oi := { dst := some 62, op := _, type := _, pos := _, after := _, guard := _ }) (v := ?_) rfl (by kernel_rfl) (by kernel_rfl) (by kernel_rfl) (fun _ _ _ h => h) (Or.inl ⟨by rfl, ?_⟩) (by assumption) ?_
  rotate_left
  · intro w hSw
    first | (go_simp; done) | (go_simp; with_reducible rfl)
  try simp only [Act.put, List.setIfInBounds_toArray, List.set_cons_zero, List.set_cons_succ]
  refine wpAnyH_take (i := 15) (oi := { dst := some 64, op := _, type := _, pos := _, after := _, guard := _ }) (v := ?_) rfl (by kernel_rfl) (by kernel_rfl) (by kernel_rfl) (fun _ _ _ h => h) (Or.inl ⟨by rfl, ?_⟩) (by assumption) ?_
  rotate_left
  · intro w hSw
    have hT := (unhide HX).below hSw; have x0 := hT.cell 0 rfl; have x1 := hT.cell 1 rfl; have x2 := hT.cell 2 rfl; clear hT; have hT := (unhide HY).below hSw; have y0 := hT.cell 0 rfl; have y1 := hT.cell 1 rfl; have y2 := hT.cell 2 rfl; clear hT
    first | (go_simp; done) | (go_simp; with_reducible rfl)
  try simp only [Act.put, List.setIfInBounds_toArray, List.set_cons_zero, List.set_cons_succ]
  refine wpAnyH_take (i := 16) (oi := { dst := some 65, op := _, type := _, pos := _, after := _, guard := _ }) (v := ?_) rfl (by kernel_rfl) (by kernel_rfl) (by kernel_rfl) (fun _ _ _ h => h) (Or.inl ⟨by rfl, ?_⟩) (by assumption) ?_
  rotate_left
  · intro w hSw
    have hT := (unhide HX).below hSw; have x0 := hT.cell 0 rfl; have x1 := hT.cell 1 rfl; have x2 := hT.cell 2 rfl; clear hT; have hT := (unhide HY).below hSw; have y0 := hT.cell 0 rfl; have y1 := hT.cell 1 rfl; have y2 := hT.cell 2 rfl; clear hT
    first | (go_simp; done) | (go_simp; with_reducible rfl)
  try simp only [Act.put, List.setIfInBounds_toArray, List.set_cons_zero, List.set_cons_succ]
  refine wpAnyH_take (i := 17) (oi := { dst := some 66, op := _, type := _, pos := _, after := _, guard := _ }) (v := ?_) rfl (by kernel_rfl) (by kernel_rfl) (by kernel_rfl) (fun _ _ _ h => h) (Or.inl ⟨by rfl, ?_⟩) (by assumption) ?_
  rotate_left
  · intro w hSw
    have hT := (unhide HX).below hSw; have x0 := hT.cell 0 rfl; have x1 := hT.cell 1 rfl; have x2 := hT.cell 2 rfl; clear hT; have hT := (unhide HY).below hSw; have y0 := hT.cell 0 rfl; have y1 := hT.cell 1 rfl; have y2 := hT.cell 2 rfl; clear hT
    first | (go_simp; done) | (go_simp; with_reducible rfl)
  try simp only [Act.put, List.setIfInBounds_toArray, List.set_cons_zero, List.set_cons_succ]
  refine wpAnyH_take (i := 18) (oi := { dst := some 67, op := _, type := _, pos := _, after := _, guard := _ }) (v := ?_) rfl (by kernel_rfl) (by kernel_rfl) (by kernel_rfl) (fun _ _ _ h => h) (Or.inl ⟨by rfl, ?_⟩) (by assumption) ?_
  rotate_left
  · intro w hSw
    have hT := (unhide HX).below hSw; have x0 := hT.cell 0 rfl; have x1 := hT.cell 1 rfl; have x2 := hT.cell 2 rfl; clear hT; have hT := (unhide HY).below hSw; have y0 := hT.cell 0 rfl; have y1 := hT.cell 1 rfl; have y2 := hT.cell 2 rfl; clear hT
    first | (go_simp; done) | (go_simp; with_reducible rfl)
  try simp only [Act.put, List.setIfInBounds_toArray, List.set_cons_zero, List.set_cons_succ]
  refine wpAnyH_take (i := 19) (oi := { dst := some 68, op := _, type := _, pos := _, after := _, guard := _ }) (v := ?_) rfl (by kernel_rfl) (by kernel_rfl) (by kernel_rfl) (fun _ _ _ h => h) (Or.inl ⟨by rfl, ?_⟩) (by assumption) ?_
  rotate_left
  · intro w hSw
    first | (go_simp; done) | (go_simp; with_reducible rfl)
  try simp only [Act.put, List.setIfInBounds_toArray, List.set_cons_zero, List.set_cons_succ]
  refine wpAnyH_ready (rs := [14]) (by kernel_rfl) (by simp) ?_
  refine AllReadyH.cons (o := { dst := some 63, op := _, type := _, pos := _, after := _, guard := _ }) rfl (fun K hK => ?_) AllReadyH.nil
  go_simp
  go_at_call 82
  refine (c82 s2 l2 o2 s1 l1 o1 ps ap ps.length capp _ rfl hcp (by omega) ((unhide HP).bel HD)).mono ?_
  rintro e V2 ⟨rfl, hb⟩
  replace HD := below_then HD hb
  clear hb
  rw [unhide HG2]
  try go_wp2_with fail
  refine hK.out _ _ HD (fun hHeld => ?_)
  clear hK K hHeld
  try simp only [Act.put, List.setIfInBounds_toArray, List.set_cons_zero, List.set_cons_succ]
  refine wpAnyH_take (i := 20) (oi := { dst := some 69, op := _, type := _, pos := _, after := _, guard := _ }) (v := ?_) rfl (by kernel_rfl) (by kernel_rfl) (by kernel_rfl) (fun _ _ _ h => h) (Or.inl ⟨by rfl, ?_⟩) (by assumption) ?_
  rotate_left
  · intro w hSw
    first | (go_simp; done) | (go_simp; with_reducible rfl)
  try simp only [Act.put, List.setIfInBounds_toArray, List.set_cons_zero, List.set_cons_succ]
  refine wpAnyH_take (i := 21) (oi := { dst := some 70, op := _, type := _, pos := _, after := _, guard := _ }) (v := ?_) rfl (by kernel_rfl) (by kernel_rfl) (by kernel_rfl) (fun _ _ _ h => h) (Or.inl ⟨by rfl, ?_⟩) (by assumption) ?_
  rotate_left
  · intro w hSw
    first | (go_simp; done) | (go_simp; with_reducible rfl)
  try simp only [Act.put, List.setIfInBounds_toArray, List.set_cons_zero, List.set_cons_succ]
  refine wpAnyH_take (i := 22) (oi := { dst := some 71, op := _, type := _, pos := _, after := _, guard := _ }) (v := ?_) rfl (by kernel_rfl) (by kernel_rfl) (by kernel_rfl) (fun _ _ _ h => h) (Or.inl ⟨by rfl, ?_⟩) (by assumption) ?_
  rotate_left
  · intro w hSw
    first | (go_simp; done) | (go_simp; with_reducible rfl)
  try simp only [Act.put, List.setIfInBounds_toArray, List.set_cons_zero, List.set_cons_succ]
  refine wpAnyH_done (by kernel_rfl) ?_ _
  replace HB := hide (below_tr (unhide HB) HD)
  replace HBZ := hide ((unhide HBZ).bel HD)
  replace HRL := hide ((unhide HRL).bel HD)
  replace HP := hide ((unhide HP).bel HD)
  replace HX := hide ((unhide HX).bel HD)
  replace HY := hide ((unhide HY).bel HD)
  clear HD 
  have x0 := (unhide HX).cell 0 rfl
  have x1 := (unhide HX).cell 1 rfl
  have x2 := (unhide HX).cell 2 rfl
  have y0 := (unhide HY).cell 0 rfl
  have y1 := (unhide HY).cell 1 rfl
  have y2 := (unhide HY).cell 2 rfl
  clear hlt1
  (try clear x0 x1 x2 y0 y1 y2)
  clear HX HY HP
  clear HRL
  go_wp2_with fail
  refine (c83 cs bo m cap' _ HN2.out hc2 (unhide HM2) (unhide HBZ)).mono ?_
  rintro e u1 ⟨a, b, c, a', b', c', qs, aq, nq, capq, rfl, hq1, hq2, hq3, hrr, hb⟩
  replace HB := hide (below_tr (unhide HB) hb)
  clear HBZ
  have HQ := hide (hrr)
  clear hb hrr
  have HQN := hide hq1
  clear hq1
  replace HB := hide (below_al (o := .cells #[.int .i64 a, .int .i64 b, .int .i64 c] 65) (unhide HB))
  replace HQ := hide ((unhide HQ).bel (below_a (.cells #[.int .i64 a, .int .i64 b, .int .i64 c] 65)))
  have HX := hide (box_new u1 [.int .i64 a, .int .i64 b, .int .i64 c] 65 (by simp [Value.oneCell']))
  have x0 := (unhide HX).cell 0 rfl
  have x1 := (unhide HX).cell 1 rfl
  have x2 := (unhide HX).cell 2 rfl
  (try clear x0 x1 x2)
  replace HB := hide (below_al (o := .cells #[.int .i64 a', .int .i64 b', .int .i64 c'] 65) (unhide HB))
  replace HQ := hide ((unhide HQ).bel (below_a (.cells #[.int .i64 a', .int .i64 b', .int .i64 c'] 65)))
  replace HX := hide ((unhide HX).bel (below_a (.cells #[.int .i64 a', .int .i64 b', .int .i64 c'] 65)))
  have HY := hide (box_new (u1.alloc (.cells #[.int .i64 a, .int .i64 b, .int .i64 c] 65)) [.int .i64 a', .int .i64 b', .int .i64 c'] 65 (by simp [Value.oneCell']))
  (try simp only [World.size_alloc] at HY)
  have x0 := (unhide HX).cell 0 rfl
  have x1 := (unhide HX).cell 1 rfl
  have x2 := (unhide HX).cell 2 rfl
  have y0 := (unhide HY).cell 0 rfl
  have y1 := (unhide HY).cell 1 rfl
  have y2 := (unhide HY).cell 2 rfl
  go_wp2_with fail
  have HFT := hide (fun h => hf_true (a := a) (b := b) (c := c) (a' := a') (b' := b') (c' := c') (ps := qs) h)
  generalize hf : hedFollows a b c a' b' c' qs = f at *
  have HF := hide hf
  clear hf
  refine (c82 a b c a' b' c' qs aq nq capq _ (unhide HQN) hq2 (by omega) (unhide HQ)).mono ?_
  rintro e u2 ⟨rfl, hb⟩
  rw [unhide HF]
  (try clear x0 x1 x2 y0 y1 y2)
  replace HB := hide (below_tr (unhide HB) hb)
  replace HQ := hide ((unhide HQ).bel hb)
  replace HX := hide ((unhide HX).bel hb)
  replace HY := hide ((unhide HY).bel hb)
  clear hb
  have x0 := (unhide HX).cell 0 rfl
  have x1 := (unhide HX).cell 1 rfl
  have x2 := (unhide HX).cell 2 rfl
  have y0 := (unhide HY).cell 0 rfl
  have y1 := (unhide HY).cell 1 rfl
  have y2 := (unhide HY).cell 2 rfl
  go_wp2_with fail
  refine (c84 a b c a' b' c' qs aq nq capq _ (unhide HQN) hq2 (by omega) (unhide HQ)).mono ?_
  rintro e u3 ⟨rfl, hb⟩
  rw [unhide HF]
  (try clear x0 x1 x2 y0 y1 y2)
  replace HB := hide (below_tr (unhide HB) hb)
  replace HQ := hide ((unhide HQ).bel hb)
  replace HX := hide ((unhide HX).bel hb)
  replace HY := hide ((unhide HY).bel hb)
  clear hb
  have x0 := (unhide HX).cell 0 rfl
  have x1 := (unhide HX).cell 1 rfl
  have x2 := (unhide HX).cell 2 rfl
  have y0 := (unhide HY).cell 0 rfl
  have y1 := (unhide HY).cell 1 rfl
  have y2 := (unhide HY).cell 2 rfl
  cases f
  case false =>
    go_wp2_with fail
    refine (c41 _).mono ?_
    rintro e w10 ⟨rfl, hww⟩
    have hww := hww.symm
    subst hww
    go_wp2_with fail
    go_ret
    exact ⟨rfl, unhide HB⟩
  obtain ⟨f1, f2, f3⟩ := unhide HFT rfl
  have HF1 := hide f1
  have HF2 := hide f2
  clear f1 f2
  go_wp2_with fail
  refine (c76 a b c _).mono ?_
  rintro e u4 ⟨rfl, hb⟩
  rw [unhide HF1]
  (try clear x0 x1 x2 y0 y1 y2)
  replace HB := hide (below_tr (unhide HB) hb)
  replace HQ := hide ((unhide HQ).bel hb)
  replace HX := hide ((unhide HX).bel hb)
  replace HY := hide ((unhide HY).bel hb)
  clear hb
  have x0 := (unhide HX).cell 0 rfl
  have x1 := (unhide HX).cell 1 rfl
  have x2 := (unhide HX).cell 2 rfl
  have y0 := (unhide HY).cell 0 rfl
  have y1 := (unhide HY).cell 1 rfl
  have y2 := (unhide HY).cell 2 rfl
  go_wp2_with fail
  refine (c76 a' b' c' _).mono ?_
  rintro e u5 ⟨rfl, hb⟩
  rw [unhide HF2]
  (try clear x0 x1 x2 y0 y1 y2)
  replace HB := hide (below_tr (unhide HB) hb)
  replace HQ := hide ((unhide HQ).bel hb)
  replace HX := hide ((unhide HX).bel hb)
  replace HY := hide ((unhide HY).bel hb)
  clear hb
  have x0 := (unhide HX).cell 0 rfl
  have x1 := (unhide HX).cell 1 rfl
  have x2 := (unhide HX).cell 2 rfl
  have y0 := (unhide HY).cell 0 rfl
  have y1 := (unhide HY).cell 1 rfl
  have y2 := (unhide HY).cell 2 rfl
  go_wp2_with fail
  refine (c41 _).mono ?_
  rintro e w12 ⟨rfl, hww⟩
  have hww := hww.symm
  subst hww
  go_wp2_with fail
  go_ret
  exact ⟨rfl, unhide HB⟩
end Go.Proofs.Ytimaidcjccakeaa
