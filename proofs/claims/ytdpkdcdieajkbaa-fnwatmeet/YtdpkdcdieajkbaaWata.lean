/-
  Heads that are kept: whether all are of one list of entries.
-/
import Derived.Test.YtdpkdcdieajkbaaWato
import Derived.Test.YtdpkdcdieajkbaaHede
namespace Go.Proofs.Ytdpkdcdieajkbaa
open Go.RowKit
set_option linter.unusedVariables false
set_option maxRecDepth 100000

/-- a head is that of the first so many entries -/
def hedIs (es : List Tm.Ent) (h : Tm.Hed) : Bool := aI es h.1 && decide ((aS es h.1, aL es h.1, aO es h.1) = (h.1, h.2.1, h.2.2))
def watAll (hs : List Tm.Hed) (es : List Tm.Ent) : Bool := watOk hs && hs.all (hedIs es)
theorem watAll_no {hs : List Tm.Hed} {es : List Tm.Ent} (h : watOk hs = false) : watAll hs es = false := by unfold watAll; rw [h]; rfl
theorem watAll_yes {hs : List Tm.Hed} {es : List Tm.Ent} (h : watOk hs = true) : watAll hs es = hs.all (hedIs es) := by unfold watAll; rw [h]; rfl
theorem all_no {hs t : List Tm.Hed} {es : List Tm.Ent} {x : Tm.Hed} (hw : hs.all (hedIs es) = (x :: t).all (hedIs es)) (h : hedIs es x = false) : hs.all (hedIs es) = false := by rw [hw, List.all_cons, h]; rfl
theorem all_on {hs t : List Tm.Hed} {es : List Tm.Ent} {x : Tm.Hed} (hw : hs.all (hedIs es) = (x :: t).all (hedIs es)) (h : hedIs es x = true) : hs.all (hedIs es) = t.all (hedIs es) := by rw [hw, List.all_cons, h]; rfl
theorem watFrom_mem : ∀ (hs : List Tm.Hed) (l : Int), watFrom l hs = true → ∀ h ∈ hs, hedOk h.1 h.2.1 h.2.2 = true := by
  intro hs
  induction hs with
  | nil => intro l _ h hh; cases hh
  | cons x t ih =>
    intro l hw h hh
    unfold watFrom at hw
    simp only [Bool.and_eq_true] at hw
    rcases List.mem_cons.1 hh with rfl | h2
    · exact hw.1
    · exact ih _ hw.2.2 h h2
theorem watOk_mem {hs : List Tm.Hed} (h : watOk hs = true) {x : Tm.Hed} (hx : x ∈ hs) : hedOk x.1 x.2.1 x.2.2 = true := by
  unfold watOk at h
  simp only [Bool.and_eq_true] at h
  exact watFrom_mem hs _ h.2 x hx
theorem hedIs_no {es : List Tm.Ent} {a c d : Int} (h : aI es a = false) : hedIs es (a, c, d) = false := by unfold hedIs; rw [h]; rfl
theorem hedIs_ne {es : List Tm.Ent} {a c d s l o : Int} (hs : aS es a = s) (hl : aL es a = l) (ho : aO es a = o) (h : ¬ (s, l, o) = (a, c, d)) : hedIs es (a, c, d) = false := by unfold hedIs; rw [hs, hl, ho, decide_eq_false h]; cases aI es a <;> rfl
theorem hedIs_yes {es : List Tm.Ent} {a c d s l o : Int} (hi : aI es a = true) (hs : aS es a = s) (hl : aL es a = l) (ho : aO es a = o) (h : (s, l, o) = (a, c, d)) : hedIs es (a, c, d) = true := by unfold hedIs; rw [hi, hs, hl, ho, decide_eq_true h]; rfl

set_option maxHeartbeats 8000000 in
theorem c58 (hs : List Tm.Hed) (es : List Tm.Ent) (ao bo : Option Addr) (n cap m cap' : Nat) (w : World) (hn : hs.length = n) (hm : n ≤ 1048576) (hn2 : es.length = m) (hc2 : m ≤ cap') (hm2 : m ≤ 1048576) (hr : WRow w ao hs) (hr2 : ERow w bo es) :
    Calls Try.prog 58 #[.slice ao n cap, .slice bo m cap'] w fun e w' => e = .returned (.bool (watAll hs es)) ∧ Below w.heap.size w w' := by
  subst hn
  subst hn2
  have HA := hide hr
  have HE := hide hr2
  have HR := hide hr.2
  have HB := hide (Below.refl w.heap.size w)
  clear hr hr2
  rcases h1 : watOk hs with _ | _
  case false =>
    have HU := hide (watAll_no (es := es) h1)
    go_enter Try.func58, Try.ntmps58
    go_wp2_with fail
    refine (c50 hs _ hs.length cap _ rfl (by omega) (unhide HA)).mono ?_
    rintro e w1 ⟨rfl, hb⟩
    rw [h1]
    replace HB := hide (below_tr (unhide HB) hb)
    replace HA := hide ((unhide HA).bel hb)
    replace HE := hide ((unhide HE).bel hb)
    clear hb
    go_wp2_with fail
    go_ret
    exact ⟨ret_bool (unhide HU).symm, unhide HB⟩
  have HU := hide (watAll_yes (es := es) h1)
  go_enter Try.func58, Try.ntmps58
  go_wp2_with fail
  refine (c50 hs _ hs.length cap _ rfl (by omega) (unhide HA)).mono ?_
  rintro e w1 ⟨rfl, hb⟩
  rw [h1]
  replace HB := hide (below_tr (unhide HB) hb)
  replace HA := hide ((unhide HA).bel hb)
  replace HE := hide ((unhide HE).bel hb)
  clear hb
  go_wp2_with fail
  go_loopw [14] (fun i wr => ∃ k : Nat, k ≤ hs.length ∧ i = .int .i64 k ∧ hs.all (hedIs es) = (hs.drop k).all (hedIs es) ∧ WRow wr ao hs ∧ ERow wr bo es ∧ Below w.heap.size w wr) (fun i _ => hs.length - (intOf i).toNat)
  case atStart => exact ⟨0, Nat.zero_le _, rfl, rfl, unhide HA, unhide HE, unhide HB⟩
  case round =>
    obtain ⟨k, hk, rfl, hw, ha, he, hbel⟩ := hrel
    obtain ⟨WA, hWA⟩ : ∃ x, x = wr := ⟨_, rfl⟩
    subst hWA
    clear HA HE HB
    have HA := hide ha
    have HE := hide he
    have HB := hide hbel
    clear ha he
    by_cases hlt : k < hs.length
    case neg =>
      obtain rfl : k = hs.length := by omega
      rw [List.drop_length] at hw
      have HV : Hid (watAll hs es = true) := (unhide HU).trans hw
      clear hw hbel
      go_wp2_with fail
      go_ret
      exact ⟨ret_bool (unhide HV).symm, unhide HB⟩
    have e0 : (0 : Int) ≤ (k : Int) := by omega
    have e1 : (k : Int) < (hs.length : Int) := by omega
    obtain ⟨b, off, rfl, hc⟩ := unhide HR (by intro e; subst e; simp at hlt)
    obtain ⟨⟨a, c, d⟩, hx⟩ := atW hlt
    obtain ⟨g0, g1, g2⟩ := w_cells hbel hc hx
    rw [wat_drop hx] at hw
    have hoka := hed_ge (watOk_mem h1 (List.mem_of_getElem? hx))
    simp only at hoka
    have HW := hide hw
    clear hw hbel hc hx
    have HX := hide (box_new WA [.int .i64 a, .int .i64 c, .int .i64 d] 38 (by simp [Value.oneCell']))
    replace HB := hide (below_al (o := .cells #[.int .i64 a, .int .i64 c, .int .i64 d] 38) (unhide HB))
    replace HA := hide ((unhide HA).bel (below_a (.cells #[.int .i64 a, .int .i64 c, .int .i64 d] 38)))
    replace HE := hide ((unhide HE).bel (below_a (.cells #[.int .i64 a, .int .i64 c, .int .i64 d] 38)))
    have x0 := (unhide HX).cell 0 rfl
    have x1 := (unhide HX).cell 1 rfl
    have x2 := (unhide HX).cell 2 rfl
    go_wp2_with fail
    clear g0 g1 g2
    refine (c60 es a _ es.length cap' _ rfl hc2 (by omega) (unhide HE)).mono ?_
    rintro e w2 ⟨rfl, hb⟩
    generalize hqs : aS es a = s at *
    generalize hql : aL es a = l at *
    generalize hqo : aO es a = o at *
    have HQS := hide hqs
    have HQL := hide hql
    have HQO := hide hqo
    clear hqs hql hqo
    (try clear x0 x1 x2)
    replace HB := hide (below_tr (unhide HB) hb)
    replace HA := hide ((unhide HA).bel hb)
    replace HE := hide ((unhide HE).bel hb)
    replace HX := hide ((unhide HX).bel hb)
    clear hb
    have x0 := (unhide HX).cell 0 rfl
    have x1 := (unhide HX).cell 1 rfl
    have x2 := (unhide HX).cell 2 rfl
    (try clear x0 x1 x2)
    replace HB := hide (below_al (o := .cells #[.int .i64 s, .int .i64 l, .int .i64 o] 38) (unhide HB))
    replace HA := hide ((unhide HA).bel (below_a (.cells #[.int .i64 s, .int .i64 l, .int .i64 o] 38)))
    replace HE := hide ((unhide HE).bel (below_a (.cells #[.int .i64 s, .int .i64 l, .int .i64 o] 38)))
    replace HX := hide ((unhide HX).bel (below_a (.cells #[.int .i64 s, .int .i64 l, .int .i64 o] 38)))
    have HQ := hide (box_new w2 [.int .i64 s, .int .i64 l, .int .i64 o] 38 (by simp [Value.oneCell']))
    have x0 := (unhide HX).cell 0 rfl
    have x1 := (unhide HX).cell 1 rfl
    have x2 := (unhide HX).cell 2 rfl
    have q0 := (unhide HQ).cell 0 rfl
    have q1 := (unhide HQ).cell 1 rfl
    have q2 := (unhide HQ).cell 2 rfl
    rcases hi : aI es a with _ | _
    case false =>
      have HV := hide ((unhide HU).trans (all_no (unhide HW) (hedIs_no (c := c) (d := d) hi)))
      clear HW
      go_wp2_with fail
      go_ret
      exact ⟨ret_bool (unhide HV).symm, unhide HB⟩
    by_cases hq : (s, l, o) = (a, c, d)
    case neg =>
      have HV := hide ((unhide HU).trans (all_no (unhide HW) (hedIs_ne (unhide HQS) (unhide HQL) (unhide HQO) hq)))
      clear HW
      have HD := hide (decide_eq_false hq)
      clear hq
      go_wp2_with fail
      refine (c133 s l o a c d _).mono ?_
      rintro e w3 ⟨rfl, hb⟩
      rw [unhide HD]
      (try clear x0 x1 x2 q0 q1 q2)
      replace HB := hide (below_tr (unhide HB) hb)
      replace HA := hide ((unhide HA).bel hb)
      replace HE := hide ((unhide HE).bel hb)
      replace HX := hide ((unhide HX).bel hb)
      replace HQ := hide ((unhide HQ).bel hb)
      clear hb
      have x0 := (unhide HX).cell 0 rfl
      have x1 := (unhide HX).cell 1 rfl
      have x2 := (unhide HX).cell 2 rfl
      have q0 := (unhide HQ).cell 0 rfl
      have q1 := (unhide HQ).cell 1 rfl
      have q2 := (unhide HQ).cell 2 rfl
      go_wp2_with fail
      go_ret
      exact ⟨ret_bool (unhide HV).symm, unhide HB⟩
    have HW2 := hide (all_on (unhide HW) (hedIs_yes hi (unhide HQS) (unhide HQL) (unhide HQO) hq))
    clear HW
    have HD := hide (decide_eq_true hq)
    clear hq
    go_wp2_with fail
    refine (c133 s l o a c d _).mono ?_
    rintro e w3 ⟨rfl, hb⟩
    rw [unhide HD]
    (try clear x0 x1 x2 q0 q1 q2)
    replace HB := hide (below_tr (unhide HB) hb)
    replace HA := hide ((unhide HA).bel hb)
    replace HE := hide ((unhide HE).bel hb)
    replace HX := hide ((unhide HX).bel hb)
    replace HQ := hide ((unhide HQ).bel hb)
    clear hb
    have x0 := (unhide HX).cell 0 rfl
    have x1 := (unhide HX).cell 1 rfl
    have x2 := (unhide HX).cell 2 rfl
    have q0 := (unhide HQ).cell 0 rfl
    have q1 := (unhide HQ).cell 1 rfl
    have q2 := (unhide HQ).cell 2 rfl
    go_wp2_with fail
    (try clear x0 x1 x2 q0 q1 q2)
    go_roundw
    case rel => exact ⟨k + 1, by omega, by go_num, unhide HW2, unhide HA, unhide HE, unhide HB⟩
    case measure => simp [intOf]; omega

set_option maxHeartbeats 8000000 in
theorem c59 (hs : List Tm.Hed) (es : List Tm.Ent) (ao bo : Option Addr) (n cap m cap' : Nat) (w : World) (hn : hs.length = n) (hm : n ≤ 1048576) (hn2 : es.length = m) (hc2 : m ≤ cap') (hm2 : m ≤ 1048576) (hr : WRow w ao hs) (hr2 : ERow w bo es) :
    Calls Try.prog 59 #[.slice ao n cap, .slice bo m cap'] w fun e w' => e = .returned (.bool (watAll hs es)) ∧ Below w.heap.size w w' := by
  subst hn
  subst hn2
  have HA := hide hr
  have HE := hide hr2
  have HR := hide hr.2
  have HB := hide (Below.refl w.heap.size w)
  clear hr hr2
  rcases h1 : watOk hs with _ | _
  case false =>
    have HU := hide (watAll_no (es := es) h1)
    go_enter Try.func59, Try.ntmps59
    go_wp2_with fail
    refine (c51 hs _ hs.length cap _ rfl (by omega) (unhide HA)).mono ?_
    rintro e w1 ⟨rfl, hb⟩
    rw [h1]
    replace HB := hide (below_tr (unhide HB) hb)
    replace HA := hide ((unhide HA).bel hb)
    replace HE := hide ((unhide HE).bel hb)
    clear hb
    go_wp2_with fail
    go_ret
    exact ⟨ret_bool (unhide HU).symm, unhide HB⟩
  have HU := hide (watAll_yes (es := es) h1)
  go_enter Try.func59, Try.ntmps59
  go_wp2_with fail
  refine (c51 hs _ hs.length cap _ rfl (by omega) (unhide HA)).mono ?_
  rintro e w1 ⟨rfl, hb⟩
  rw [h1]
  replace HB := hide (below_tr (unhide HB) hb)
  replace HA := hide ((unhide HA).bel hb)
  replace HE := hide ((unhide HE).bel hb)
  clear hb
  go_wp2_with fail
  go_loopw [5] (fun i wr => ∃ k : Nat, k ≤ hs.length ∧ i = .int .i64 k ∧ hs.all (hedIs es) = (hs.drop k).all (hedIs es) ∧ WRow wr ao hs ∧ ERow wr bo es ∧ Below w.heap.size w wr) (fun i _ => hs.length - (intOf i).toNat)
  case atStart => exact ⟨0, Nat.zero_le _, rfl, rfl, unhide HA, unhide HE, unhide HB⟩
  case round =>
    obtain ⟨k, hk, rfl, hw, ha, he, hbel⟩ := hrel
    obtain ⟨WA, hWA⟩ : ∃ x, x = wr := ⟨_, rfl⟩
    subst hWA
    clear HA HE HB
    have HA := hide ha
    have HE := hide he
    have HB := hide hbel
    clear ha he
    by_cases hlt : k < hs.length
    case neg =>
      obtain rfl : k = hs.length := by omega
      rw [List.drop_length] at hw
      have HV : Hid (watAll hs es = true) := (unhide HU).trans hw
      clear hw hbel
      go_wp2_with fail
      go_ret
      exact ⟨ret_bool (unhide HV).symm, unhide HB⟩
    have e0 : (0 : Int) ≤ (k : Int) := by omega
    have e1 : (k : Int) < (hs.length : Int) := by omega
    obtain ⟨b, off, rfl, hc⟩ := unhide HR (by intro e; subst e; simp at hlt)
    obtain ⟨⟨a, c, d⟩, hx⟩ := atW hlt
    obtain ⟨g0, g1, g2⟩ := w_cells hbel hc hx
    rw [wat_drop hx] at hw
    have hoka := hed_ge (watOk_mem h1 (List.mem_of_getElem? hx))
    simp only at hoka
    have HW := hide hw
    clear hw hbel hc hx
    have HC0 := hide g0
    have HC1 := hide g1
    have HC2 := hide g2
    by_cases hsz : (es.length : Int) < a
    case pos =>
      have HV := hide ((unhide HU).trans (all_no (unhide HW) (hedIs_no (c := c) (d := d) (at_no (es := es) (i := a) (by omega)).2.2.2)))
      clear HW
      go_wp2_with fail
      go_ret
      exact ⟨ret_bool (unhide HV).symm, unhide HB⟩
    obtain ⟨q, rfl⟩ := Int.eq_ofNat_of_zero_le hoka.1
    obtain ⟨u0, u1, u2, u3⟩ := at_yes (es := es) (k := q) (by omega)
    have HU0 := hide u0
    have HU1 := hide u1
    have HU2 := hide u2
    have HU3 := hide u3
    clear u0 u1 u2 u3
    have hk2 : (q : Int) ≤ (cap' : Int) := by omega
    have HLT : Hid ((es.take q).length = q) := by unfold Hid; rw [List.length_take]; omega
    go_wp2_with fail
    clear g0 g1 g2
    refine (c122 (es.take q) _ q cap' _ (unhide HLT) (by omega) (by omega) ((unhide HE).tk q)).mono ?_
    rintro e w2 ⟨rfl, hb⟩
    generalize hqs : hS (es.take q) = s at *
    generalize hql : hL (es.take q) = l at *
    generalize hqo : hO (es.take q) = o at *
    generalize hqi : foldIs (es.take q) = bi at *
    clear hqs hql hqo hqi
    have HG0 := hide (cell_bl hb (unhide HC0))
    have HG1 := hide (cell_bl hb (unhide HC1))
    have HG2 := hide (cell_bl hb (unhide HC2))
    clear HC0 HC1 HC2
    replace HB := hide (below_tr (unhide HB) hb)
    replace HA := hide ((unhide HA).bel hb)
    replace HE := hide ((unhide HE).bel hb)
    clear hb
    replace HB := hide (below_al (o := .cells #[.int .i64 s, .int .i64 l, .int .i64 o] 38) (unhide HB))
    replace HA := hide ((unhide HA).bel (below_a (.cells #[.int .i64 s, .int .i64 l, .int .i64 o] 38)))
    replace HE := hide ((unhide HE).bel (below_a (.cells #[.int .i64 s, .int .i64 l, .int .i64 o] 38)))
    have HQ := hide (box_new w2 [.int .i64 s, .int .i64 l, .int .i64 o] 38 (by simp [Value.oneCell']))
    have q0 := (unhide HQ).cell 0 rfl
    have q1 := (unhide HQ).cell 1 rfl
    have q2 := (unhide HQ).cell 2 rfl
    replace HG0 := hide (cell_bl (below_a (.cells #[.int .i64 s, .int .i64 l, .int .i64 o] 38)) (unhide HG0))
    replace HG1 := hide (cell_bl (below_a (.cells #[.int .i64 s, .int .i64 l, .int .i64 o] 38)) (unhide HG1))
    replace HG2 := hide (cell_bl (below_a (.cells #[.int .i64 s, .int .i64 l, .int .i64 o] 38)) (unhide HG2))
    cases bi
    case false =>
      have HV := hide ((unhide HU).trans (all_no (unhide HW) (hedIs_no (c := c) (d := d) (unhide HU3))))
      clear HW
      go_wp2_with fail
      generalize w2.alloc (.cells #[.int .i64 s, .int .i64 l, .int .i64 o] 38) = W at *
      (try clear q0 q1 q2)
      refine wp_region_held_drew (S := fun w' => Below W.heap.size W w') (by kernel_rfl) (below_drew W) (fun hHeld => ?_)
      refine wpAnyH_take (i := 0) (oi := { dst := some 36, op := _, type := _, pos := _, after := _, guard := _ }) (v := ?_) rfl (by kernel_rfl) (by kernel_rfl) (by kernel_rfl) (fun _ _ _ h => h) (Or.inl ⟨by rfl, ?_⟩) (by assumption) ?_
      rotate_left
      · intro w hSw
        first | (go_simp; done) | (go_simp; with_reducible rfl) | with_reducible rfl | rfl
      try simp only [Act.put, List.setIfInBounds_toArray, List.set_cons_zero, List.set_cons_succ]
      refine wpAnyH_take (i := 1) (oi := { dst := some 37, op := _, type := _, pos := _, after := _, guard := _ }) (v := ?_) rfl (by kernel_rfl) (by kernel_rfl) (by kernel_rfl) (fun _ _ _ h => h) (Or.inl ⟨by rfl, ?_⟩) (by assumption) ?_
      rotate_left
      · intro w hSw
        first | (go_simp; done) | (go_simp; with_reducible rfl) | with_reducible rfl | rfl
      try simp only [Act.put, List.setIfInBounds_toArray, List.set_cons_zero, List.set_cons_succ]
      refine wpAnyH_take (i := 2) (oi := { dst := some 38, op := _, type := _, pos := _, after := _, guard := _ }) (v := ?_) rfl (by kernel_rfl) (by kernel_rfl) (by kernel_rfl) (fun _ _ _ h => h) (Or.inl ⟨by rfl, ?_⟩) (by assumption) ?_
      rotate_left
      · intro w hSw
        first | (go_simp; done) | (go_simp; with_reducible rfl) | with_reducible rfl | rfl
      try simp only [Act.put, List.setIfInBounds_toArray, List.set_cons_zero, List.set_cons_succ]
      refine wpAnyH_take (i := 3) (oi := { dst := some 39, op := _, type := _, pos := _, after := _, guard := _ }) (v := undef) rfl (by kernel_rfl) (by kernel_rfl) (by kernel_rfl) (fun _ _ _ h => h) (Or.inr ⟨by rfl, rfl⟩) (by assumption) ?_
      try simp only [Act.put, List.setIfInBounds_toArray, List.set_cons_zero, List.set_cons_succ]
      refine wpAnyH_take (i := 4) (oi := { dst := some 40, op := _, type := _, pos := _, after := _, guard := _ }) (v := undef) rfl (by kernel_rfl) (by kernel_rfl) (by kernel_rfl) (fun _ _ _ h => h) (Or.inr ⟨by rfl, rfl⟩) (by assumption) ?_
      try simp only [Act.put, List.setIfInBounds_toArray, List.set_cons_zero, List.set_cons_succ]
      refine wpAnyH_take (i := 5) (oi := { dst := some 41, op := _, type := _, pos := _, after := _, guard := _ }) (v := undef) rfl (by kernel_rfl) (by kernel_rfl) (by kernel_rfl) (fun _ _ _ h => h) (Or.inr ⟨by rfl, rfl⟩) (by assumption) ?_
      try simp only [Act.put, List.setIfInBounds_toArray, List.set_cons_zero, List.set_cons_succ]
      refine wpAnyH_take (i := 6) (oi := { dst := some 42, op := _, type := _, pos := _, after := _, guard := _ }) (v := undef) rfl (by kernel_rfl) (by kernel_rfl) (by kernel_rfl) (fun _ _ _ h => h) (Or.inr ⟨by rfl, rfl⟩) (by assumption) ?_
      try simp only [Act.put, List.setIfInBounds_toArray, List.set_cons_zero, List.set_cons_succ]
      refine wpAnyH_take (i := 7) (oi := { dst := some 43, op := _, type := _, pos := _, after := _, guard := _ }) (v := undef) rfl (by kernel_rfl) (by kernel_rfl) (by kernel_rfl) (fun _ _ _ h => h) (Or.inr ⟨by rfl, rfl⟩) (by assumption) ?_
      try simp only [Act.put, List.setIfInBounds_toArray, List.set_cons_zero, List.set_cons_succ]
      refine wpAnyH_take (i := 8) (oi := { dst := some 44, op := _, type := _, pos := _, after := _, guard := _ }) (v := undef) rfl (by kernel_rfl) (by kernel_rfl) (by kernel_rfl) (fun _ _ _ h => h) (Or.inr ⟨by rfl, rfl⟩) (by assumption) ?_
      try simp only [Act.put, List.setIfInBounds_toArray, List.set_cons_zero, List.set_cons_succ]
      refine wpAnyH_take (i := 9) (oi := { dst := some 45, op := _, type := _, pos := _, after := _, guard := _ }) (v := ?_) rfl (by kernel_rfl) (by kernel_rfl) (by kernel_rfl) (fun _ _ _ h => h) (Or.inl ⟨by rfl, ?_⟩) (by assumption) ?_
      rotate_left
      · intro w hSw
        first | (go_simp; done) | (go_simp; with_reducible rfl) | with_reducible rfl | rfl
      try simp only [Act.put, List.setIfInBounds_toArray, List.set_cons_zero, List.set_cons_succ]
      have HD := below_drew W
      generalize W.drew = V0 at *
      refine wpAnyH_done (by kernel_rfl) ?_ _
      replace HB := hide (below_tr (unhide HB) HD)
      replace HA := hide ((unhide HA).bel HD)
      replace HE := hide ((unhide HE).bel HD)
      replace HQ := hide ((unhide HQ).bel HD)
      clear HD 
      have q0 := (unhide HQ).cell 0 rfl
      have q1 := (unhide HQ).cell 1 rfl
      have q2 := (unhide HQ).cell 2 rfl
      go_wp2_with fail
      go_ret
      exact ⟨ret_bool (unhide HV).symm, unhide HB⟩
    by_cases hq : (s, l, o) = ((q : Int), c, d)
    case neg =>
      have HV := hide ((unhide HU).trans (all_no (unhide HW) (hedIs_ne (unhide HU0) (unhide HU1) (unhide HU2) hq)))
      clear HW
      have heq : ∀ w : World, (Op.equalIn 10000 38 (.agg #[.int .i64 s, .int .i64 l, .int .i64 o]) (.agg #[.int .i64 (q : Int), .int .i64 c, .int .i64 d])).run Try.prog w = .ok false w := fun w => by rw [eqHedT, decide_eq_false hq]
      clear hq
      go_wp2_with fail
      generalize w2.alloc (.cells #[.int .i64 s, .int .i64 l, .int .i64 o] 38) = W at *
      (try clear q0 q1 q2)
      refine wp_region_held_drew (S := fun w' => Below W.heap.size W w') (by kernel_rfl) (below_drew W) (fun hHeld => ?_)
      refine wpAnyH_take (i := 0) (oi := { dst := some 36, op := _, type := _, pos := _, after := _, guard := _ }) (v := ?_) rfl (by kernel_rfl) (by kernel_rfl) (by kernel_rfl) (fun _ _ _ h => h) (Or.inl ⟨by rfl, ?_⟩) (by assumption) ?_
      rotate_left
      · intro w hSw
        first | (go_simp; done) | (go_simp; with_reducible rfl) | with_reducible rfl | rfl
      try simp only [Act.put, List.setIfInBounds_toArray, List.set_cons_zero, List.set_cons_succ]
      refine wpAnyH_take (i := 1) (oi := { dst := some 37, op := _, type := _, pos := _, after := _, guard := _ }) (v := ?_) rfl (by kernel_rfl) (by kernel_rfl) (by kernel_rfl) (fun _ _ _ h => h) (Or.inl ⟨by rfl, ?_⟩) (by assumption) ?_
      rotate_left
      · intro w hSw
        first | (go_simp; done) | (go_simp; with_reducible rfl) | with_reducible rfl | rfl
      try simp only [Act.put, List.setIfInBounds_toArray, List.set_cons_zero, List.set_cons_succ]
      refine wpAnyH_take (i := 2) (oi := { dst := some 38, op := _, type := _, pos := _, after := _, guard := _ }) (v := ?_) rfl (by kernel_rfl) (by kernel_rfl) (by kernel_rfl) (fun _ _ _ h => h) (Or.inl ⟨by rfl, ?_⟩) (by assumption) ?_
      rotate_left
      · intro w hSw
        first | (go_simp; done) | (go_simp; with_reducible rfl) | with_reducible rfl | rfl
      try simp only [Act.put, List.setIfInBounds_toArray, List.set_cons_zero, List.set_cons_succ]
      refine wpAnyH_take (i := 3) (oi := { dst := some 39, op := _, type := _, pos := _, after := _, guard := _ }) (v := ?_) rfl (by kernel_rfl) (by kernel_rfl) (by kernel_rfl) (fun _ _ _ h => h) (Or.inl ⟨by rfl, ?_⟩) (by assumption) ?_
      rotate_left
      · intro w hSw
        have hT := (unhide HQ).below hSw; have q0 := hT.cell 0 rfl; have q1 := hT.cell 1 rfl; have q2 := hT.cell 2 rfl; clear hT; have g0 := cell_bl hSw (unhide HG0); have g1 := cell_bl hSw (unhide HG1); have g2 := cell_bl hSw (unhide HG2)
        first | (go_simp; done) | (go_simp; with_reducible rfl) | with_reducible rfl | rfl
      try simp only [Act.put, List.setIfInBounds_toArray, List.set_cons_zero, List.set_cons_succ]
      refine wpAnyH_take (i := 4) (oi := { dst := some 40, op := _, type := _, pos := _, after := _, guard := _ }) (v := ?_) rfl (by kernel_rfl) (by kernel_rfl) (by kernel_rfl) (fun _ _ _ h => h) (Or.inl ⟨by rfl, ?_⟩) (by assumption) ?_
      rotate_left
      · intro w hSw
        first | (go_simp; done) | (go_simp; with_reducible rfl) | with_reducible rfl | rfl
      try simp only [Act.put, List.setIfInBounds_toArray, List.set_cons_zero, List.set_cons_succ]
      refine wpAnyH_take (i := 5) (oi := { dst := some 41, op := _, type := _, pos := _, after := _, guard := _ }) (v := ?_) rfl (by kernel_rfl) (by kernel_rfl) (by kernel_rfl) (fun _ _ _ h => h) (Or.inl ⟨by rfl, ?_⟩) (by assumption) ?_
      rotate_left
      · intro w hSw
        first | (go_simp; done) | (go_simp; with_reducible rfl) | with_reducible rfl | rfl
      try simp only [Act.put, List.setIfInBounds_toArray, List.set_cons_zero, List.set_cons_succ]
      refine wpAnyH_take (i := 6) (oi := { dst := some 42, op := _, type := _, pos := _, after := _, guard := _ }) (v := ?_) rfl (by kernel_rfl) (by kernel_rfl) (by kernel_rfl) (fun _ _ _ h => h) (Or.inl ⟨by rfl, ?_⟩) (by assumption) ?_
      rotate_left
      · intro w hSw
        have hT := (unhide HQ).below hSw; have q0 := hT.cell 0 rfl; have q1 := hT.cell 1 rfl; have q2 := hT.cell 2 rfl; clear hT; have g0 := cell_bl hSw (unhide HG0); have g1 := cell_bl hSw (unhide HG1); have g2 := cell_bl hSw (unhide HG2)
        first | (go_simp; done) | (go_simp; with_reducible rfl) | with_reducible rfl | rfl
      try simp only [Act.put, List.setIfInBounds_toArray, List.set_cons_zero, List.set_cons_succ]
      refine wpAnyH_take (i := 7) (oi := { dst := some 43, op := _, type := _, pos := _, after := _, guard := _ }) (v := ?_) rfl (by kernel_rfl) (by kernel_rfl) (by kernel_rfl) (fun _ _ _ h => h) (Or.inl ⟨by rfl, ?_⟩) (by assumption) ?_
      rotate_left
      · intro w hSw
        have hT := (unhide HQ).below hSw; have q0 := hT.cell 0 rfl; have q1 := hT.cell 1 rfl; have q2 := hT.cell 2 rfl; clear hT; have g0 := cell_bl hSw (unhide HG0); have g1 := cell_bl hSw (unhide HG1); have g2 := cell_bl hSw (unhide HG2)
        first | (go_simp; done) | (go_simp; with_reducible rfl) | with_reducible rfl | rfl
      try simp only [Act.put, List.setIfInBounds_toArray, List.set_cons_zero, List.set_cons_succ]
      refine wpAnyH_take (i := 8) (oi := { dst := some 44, op := _, type := _, pos := _, after := _, guard := _ }) (v := ?_) rfl (by kernel_rfl) (by kernel_rfl) (by kernel_rfl) (fun _ _ _ h => h) (Or.inl ⟨by rfl, ?_⟩) (by assumption) ?_
      rotate_left
      · intro w hSw
        first | (go_simp; done) | (go_simp; with_reducible rfl) | with_reducible rfl | rfl
      try simp only [Act.put, List.setIfInBounds_toArray, List.set_cons_zero, List.set_cons_succ]
      refine wpAnyH_take (i := 9) (oi := { dst := some 45, op := _, type := _, pos := _, after := _, guard := _ }) (v := ?_) rfl (by kernel_rfl) (by kernel_rfl) (by kernel_rfl) (fun _ _ _ h => h) (Or.inl ⟨by rfl, ?_⟩) (by assumption) ?_
      rotate_left
      · intro w hSw
        first | (go_simp; done) | (go_simp; with_reducible rfl) | with_reducible rfl | rfl
      try simp only [Act.put, List.setIfInBounds_toArray, List.set_cons_zero, List.set_cons_succ]
      have HD := below_drew W
      generalize W.drew = V0 at *
      refine wpAnyH_done (by kernel_rfl) ?_ _
      replace HB := hide (below_tr (unhide HB) HD)
      replace HA := hide ((unhide HA).bel HD)
      replace HE := hide ((unhide HE).bel HD)
      replace HQ := hide ((unhide HQ).bel HD)
      clear HD 
      have q0 := (unhide HQ).cell 0 rfl
      have q1 := (unhide HQ).cell 1 rfl
      have q2 := (unhide HQ).cell 2 rfl
      go_wp2_with fail
      go_ret
      exact ⟨ret_bool (unhide HV).symm, unhide HB⟩
    have HW2 := hide (all_on (unhide HW) (hedIs_yes (unhide HU3) (unhide HU0) (unhide HU1) (unhide HU2) hq))
    clear HW
    have heq : ∀ w : World, (Op.equalIn 10000 38 (.agg #[.int .i64 s, .int .i64 l, .int .i64 o]) (.agg #[.int .i64 (q : Int), .int .i64 c, .int .i64 d])).run Try.prog w = .ok true w := fun w => by rw [eqHedT, decide_eq_true hq]
    clear hq
    go_wp2_with fail
    generalize w2.alloc (.cells #[.int .i64 s, .int .i64 l, .int .i64 o] 38) = W at *
    (try clear q0 q1 q2)
    refine wp_region_held_drew (S := fun w' => Below W.heap.size W w') (by kernel_rfl) (below_drew W) (fun hHeld => ?_)
    refine wpAnyH_take (i := 0) (oi := { dst := some 36, op := _, type := _, pos := _, after := _, guard := _ }) (v := ?_) rfl (by kernel_rfl) (by kernel_rfl) (by kernel_rfl) (fun _ _ _ h => h) (Or.inl ⟨by rfl, ?_⟩) (by assumption) ?_
    rotate_left
    · intro w hSw
      first | (go_simp; done) | (go_simp; with_reducible rfl) | with_reducible rfl | rfl
    try simp only [Act.put, List.setIfInBounds_toArray, List.set_cons_zero, List.set_cons_succ]
    refine wpAnyH_take (i := 1) (oi := { dst := some 37, op := _, type := _, pos := _, after := _, guard := _ }) (v := ?_) rfl (by kernel_rfl) (by kernel_rfl) (by kernel_rfl) (fun _ _ _ h => h) (Or.inl ⟨by rfl, ?_⟩) (by assumption) ?_
    rotate_left
    · intro w hSw
      first | (go_simp; done) | (go_simp; with_reducible rfl) | with_reducible rfl | rfl
    try simp only [Act.put, List.setIfInBounds_toArray, List.set_cons_zero, List.set_cons_succ]
    refine wpAnyH_take (i := 2) (oi := { dst := some 38, op := _, type := _, pos := _, after := _, guard := _ }) (v := ?_) rfl (by kernel_rfl) (by kernel_rfl) (by kernel_rfl) (fun _ _ _ h => h) (Or.inl ⟨by rfl, ?_⟩) (by assumption) ?_
    rotate_left
    · intro w hSw
      first | (go_simp; done) | (go_simp; with_reducible rfl) | with_reducible rfl | rfl
    try simp only [Act.put, List.setIfInBounds_toArray, List.set_cons_zero, List.set_cons_succ]
    refine wpAnyH_take (i := 3) (oi := { dst := some 39, op := _, type := _, pos := _, after := _, guard := _ }) (v := ?_) rfl (by kernel_rfl) (by kernel_rfl) (by kernel_rfl) (fun _ _ _ h => h) (Or.inl ⟨by rfl, ?_⟩) (by assumption) ?_
    rotate_left
    · intro w hSw
      have hT := (unhide HQ).below hSw; have q0 := hT.cell 0 rfl; have q1 := hT.cell 1 rfl; have q2 := hT.cell 2 rfl; clear hT; have g0 := cell_bl hSw (unhide HG0); have g1 := cell_bl hSw (unhide HG1); have g2 := cell_bl hSw (unhide HG2)
      first | (go_simp; done) | (go_simp; with_reducible rfl) | with_reducible rfl | rfl
    try simp only [Act.put, List.setIfInBounds_toArray, List.set_cons_zero, List.set_cons_succ]
    refine wpAnyH_take (i := 4) (oi := { dst := some 40, op := _, type := _, pos := _, after := _, guard := _ }) (v := ?_) rfl (by kernel_rfl) (by kernel_rfl) (by kernel_rfl) (fun _ _ _ h => h) (Or.inl ⟨by rfl, ?_⟩) (by assumption) ?_
    rotate_left
    · intro w hSw
      first | (go_simp; done) | (go_simp; with_reducible rfl) | with_reducible rfl | rfl
    try simp only [Act.put, List.setIfInBounds_toArray, List.set_cons_zero, List.set_cons_succ]
    refine wpAnyH_take (i := 5) (oi := { dst := some 41, op := _, type := _, pos := _, after := _, guard := _ }) (v := ?_) rfl (by kernel_rfl) (by kernel_rfl) (by kernel_rfl) (fun _ _ _ h => h) (Or.inl ⟨by rfl, ?_⟩) (by assumption) ?_
    rotate_left
    · intro w hSw
      first | (go_simp; done) | (go_simp; with_reducible rfl) | with_reducible rfl | rfl
    try simp only [Act.put, List.setIfInBounds_toArray, List.set_cons_zero, List.set_cons_succ]
    refine wpAnyH_take (i := 6) (oi := { dst := some 42, op := _, type := _, pos := _, after := _, guard := _ }) (v := ?_) rfl (by kernel_rfl) (by kernel_rfl) (by kernel_rfl) (fun _ _ _ h => h) (Or.inl ⟨by rfl, ?_⟩) (by assumption) ?_
    rotate_left
    · intro w hSw
      have hT := (unhide HQ).below hSw; have q0 := hT.cell 0 rfl; have q1 := hT.cell 1 rfl; have q2 := hT.cell 2 rfl; clear hT; have g0 := cell_bl hSw (unhide HG0); have g1 := cell_bl hSw (unhide HG1); have g2 := cell_bl hSw (unhide HG2)
      first | (go_simp; done) | (go_simp; with_reducible rfl) | with_reducible rfl | rfl
    try simp only [Act.put, List.setIfInBounds_toArray, List.set_cons_zero, List.set_cons_succ]
    refine wpAnyH_take (i := 7) (oi := { dst := some 43, op := _, type := _, pos := _, after := _, guard := _ }) (v := ?_) rfl (by kernel_rfl) (by kernel_rfl) (by kernel_rfl) (fun _ _ _ h => h) (Or.inl ⟨by rfl, ?_⟩) (by assumption) ?_
    rotate_left
    · intro w hSw
      have hT := (unhide HQ).below hSw; have q0 := hT.cell 0 rfl; have q1 := hT.cell 1 rfl; have q2 := hT.cell 2 rfl; clear hT; have g0 := cell_bl hSw (unhide HG0); have g1 := cell_bl hSw (unhide HG1); have g2 := cell_bl hSw (unhide HG2)
      first | (go_simp; done) | (go_simp; with_reducible rfl) | with_reducible rfl | rfl
    try simp only [Act.put, List.setIfInBounds_toArray, List.set_cons_zero, List.set_cons_succ]
    refine wpAnyH_take (i := 8) (oi := { dst := some 44, op := _, type := _, pos := _, after := _, guard := _ }) (v := ?_) rfl (by kernel_rfl) (by kernel_rfl) (by kernel_rfl) (fun _ _ _ h => h) (Or.inl ⟨by rfl, ?_⟩) (by assumption) ?_
    rotate_left
    · intro w hSw
      first | (go_simp; done) | (go_simp; with_reducible rfl) | with_reducible rfl | rfl
    try simp only [Act.put, List.setIfInBounds_toArray, List.set_cons_zero, List.set_cons_succ]
    refine wpAnyH_take (i := 9) (oi := { dst := some 45, op := _, type := _, pos := _, after := _, guard := _ }) (v := ?_) rfl (by kernel_rfl) (by kernel_rfl) (by kernel_rfl) (fun _ _ _ h => h) (Or.inl ⟨by rfl, ?_⟩) (by assumption) ?_
    rotate_left
    · intro w hSw
      first | (go_simp; done) | (go_simp; with_reducible rfl) | with_reducible rfl | rfl
    try simp only [Act.put, List.setIfInBounds_toArray, List.set_cons_zero, List.set_cons_succ]
    have HD := below_drew W
    generalize W.drew = V0 at *
    refine wpAnyH_done (by kernel_rfl) ?_ _
    replace HB := hide (below_tr (unhide HB) HD)
    replace HA := hide ((unhide HA).bel HD)
    replace HE := hide ((unhide HE).bel HD)
    replace HQ := hide ((unhide HQ).bel HD)
    clear HD 
    have q0 := (unhide HQ).cell 0 rfl
    have q1 := (unhide HQ).cell 1 rfl
    have q2 := (unhide HQ).cell 2 rfl
    go_wp2_with fail
    (try clear q0 q1 q2)
    go_roundw
    case rel => exact ⟨k + 1, by omega, by go_num, unhide HW2, unhide HA, unhide HE, unhide HB⟩
    case measure => simp [intOf]; omega

end Go.Proofs.Ytdpkdcdieajkbaa
