/-
  The walk of the exact law FnExactGatSync: at every argument it answers true, and nothing that was there is written.
-/
import Derived.Test.YtmlbphmbffkdnaaGsz
import Derived.Test.YtmlbphmbffkdnaaLawsgb
import Derived.Test.YtmlbphmbffkdnaaLawsha
namespace Go.Proofs.Ytmlbphmbffkdnaa
open Go.RowKit
set_option linter.unusedVariables false
set_option maxRecDepth 100000

theorem toI2 (zs : List Int) (ao : Option Addr) (n cap : Nat) (w : World) (hn : zs.length = n) (hm : n ≤ 1048576) (hr : Row w ao zs) : Calls Try.prog 89 #[.slice ao n cap] w fun e w' => ∃ a, e = .returned (.slice a n n) ∧ Own w' w.heap.size (.slice a n n) zs ∧ Below w.heap.size w w' :=
  (c89 zs ao n cap w hn hm hr).mono fun e w' hh => ⟨_, hh.1, hh.2.1, hh.2.2⟩
theorem own_cap0' {w : World} {base : Nat} {a : Option Addr} {n c : Nat} {zs : List Int} (h : Own w base (.slice a n c) zs) : a = none → c = 0 := fun e => by subst e; exact own_cap0 h
theorem live_add2 {w w' : World} {base : Nat} {L : List LRow} {x y : LRow} (h : Live w base L) (hb : Below w.heap.size w w') (hB : base ≤ w.heap.size) (hx : w'.ownsRow w.heap.size x.1 x.2.1 x.2.2.1 x.2.2.2.1 x.2.2.2.2) (hy : w'.ownsRow w.heap.size y.1 y.2.1 y.2.2.1 y.2.2.2.1 y.2.2.2.2) (hne : x.1 ≠ y.1) : Live w' base (x :: y :: L) := by
  have h2 := live_new (A := []) (C := L) (T := y.1) (n := y.2.1) (v := y.2.2.1) (m := y.2.2.2.1) (cs := y.2.2.2.2) h hb (owns_mono hy hB) (fun k hk => (hy.lt k hk).1)
  refine live_pair (A := []) (C := y :: L) |>.2 ⟨h2, owns_mono hx hB, fun z hz => ?_⟩
  rcases List.mem_cons.1 hz with rfl | hz
  · exact rows_apart hx hy hne
  · intro b hbk e
    have h3 := (hx.lt b hbk).1
    have h4 := ((h.1 z hz).lt b e.symm).2
    omega
theorem live_put {w : World} {base : Nat} {A C : List LRow} {T n g m c : Nat} {cs : List Value} (h : Live w base (A ++ (T, n, .slice (some ⟨g, 0, none⟩) m c, m, cs) :: C)) (j : Nat) (v : Value) : Live (w.setCell ⟨g, j, none⟩ v) base (A ++ (T, n, .slice (some ⟨g, 0, none⟩) m c, m, cs.set j v) :: C) := by
  have h1 := ((live_pair.1 h).2.1).stored j v
  exact live_grow h h1.2 h1.1 (.inl rfl)
theorem live_drop {w w' : World} {base : Nat} {A C : List LRow} {x : LRow} (h : Live w base (A ++ x :: C)) (hg : w.grownBy w' x.2.2.1.ownBlock) : Live w' base (A ++ C) := by
  obtain ⟨h1, h2, h3⟩ := live_pair.1 h
  refine ⟨fun y hy => (h1.1 y hy).kept hg ?_, h1.2⟩
  rcases e : y.2.2.1.ownBlock with _ | b
  · exact .inl rfl
  · exact .inr fun e2 => h3 y hy b e2.symm (by rw [e])

set_option maxHeartbeats 16000000 in
theorem law16 (s l o : Int) (zs : List Int) (ao : Option Addr) (n cap : Nat) (s2 l2 o2 : Int) (ps : List Int) (bo : Option Addr) (m cap' : Nat) (w : World) (hn : zs.length = n) (hcap : n ≤ cap) (hmx : cap ≤ maxLen) (hr : Row w ao zs)
    (hn2 : ps.length = m) (hcap2 : m ≤ cap') (hmx2 : cap' ≤ maxLen) (hr2 : Row w bo ps) :
    Calls Try.prog 16 #[gatV s l o (.slice ao n cap), hedV s2 l2 o2, .slice bo m cap'] w (Holds w) := by
  unfold maxLen at hmx hmx2
  subst hn
  subst hn2
  have HR := hide hr
  have HP := hide hr2
  have HFZ := hide hr.1
  have HFP := hide hr2.1
  clear hr hr2
  have HB := hide (Below.refl w.heap.size w)
  replace HB := hide (below_al (o := .cells #[.int .i64 s, .int .i64 l, .int .i64 o, .slice ao zs.length cap] 102) (unhide HB))
  have HX := hide (box_new w [.int .i64 s, .int .i64 l, .int .i64 o, .slice ao zs.length cap] 102 (by simp [Value.oneCell']))
  (try simp only [World.size_alloc] at HX)
  replace HB := hide (below_al (o := .cells #[.int .i64 s2, .int .i64 l2, .int .i64 o2] 87) (unhide HB))
  replace HX := hide ((unhide HX).bel (below_a (.cells #[.int .i64 s2, .int .i64 l2, .int .i64 o2] 87)))
  have HH := hide (box_new (w.alloc (.cells #[.int .i64 s, .int .i64 l, .int .i64 o, .slice ao zs.length cap] 102)) [.int .i64 s2, .int .i64 l2, .int .i64 o2] 87 (by simp [Value.oneCell']))
  (try simp only [World.size_alloc] at HH)
  have x0 := (unhide HX).cell 0 rfl
  have x1 := (unhide HX).cell 1 rfl
  have x2 := (unhide HX).cell 2 rfl
  have x3 := (unhide HX).cell 3 rfl
  have z0 := (unhide HH).cell 0 rfl
  have z1 := (unhide HH).cell 1 rfl
  have z2 := (unhide HH).cell 2 rfl
  by_cases hbig : (1048576 : Int) < (ps.length : Int)
  case pos =>
    go_enter Try.func16, Try.ntmps16
    go_wp2_with fail
    go_ret
    exact ⟨rfl, unhide HB⟩
  by_cases hb2 : zs.length ≤ 1048576
  case neg =>
    go_enter Try.func16, Try.ntmps16
    go_wp2_with fail
    refine (sgG s l o ao zs.length cap 1048576 _ (by omega) (by omega)).mono ?_
    rintro e w1 ⟨rfl, hb⟩
    rw [if_neg hb2]
    (try clear x0 x1 x2 x3 z0 z1 z2)
    replace HB := hide (below_tr (unhide HB) hb)
    replace HX := hide ((unhide HX).bel hb)
    replace HH := hide ((unhide HH).bel hb)
    clear hb
    have x0 := (unhide HX).cell 0 rfl
    have x1 := (unhide HX).cell 1 rfl
    have x2 := (unhide HX).cell 2 rfl
    have x3 := (unhide HX).cell 3 rfl
    have z0 := (unhide HH).cell 0 rfl
    have z1 := (unhide HH).cell 1 rfl
    have z2 := (unhide HH).cell 2 rfl
    go_wp2_with fail
    go_ret
    exact ⟨rfl, unhide HB⟩
  obtain ⟨lf, hlf⟩ : ∃ q : Nat, (1048576 : Int) - (zs.length : Int) = (q : Int) := ⟨1048576 - zs.length, by omega⟩
  have hl0 : ¬ ((lf : Int) < 0) := by omega
  obtain ⟨⟨S, L, O⟩, HGH⟩ : ∃ q, Hid (gsyncH s l o zs s2 l2 o2 ps = q) := ⟨_, rfl⟩
  obtain ⟨ZS, HGD⟩ : ∃ q, Hid (gsyncD s l o zs = q) := ⟨_, rfl⟩
  obtain ⟨bb, HGB⟩ : ∃ q, Hid (gsyncOk s l o zs s2 l2 o2 ps = q) := ⟨_, rfl⟩
  have hzl : ZS.length ≤ 1048576 := by rw [← unhide HGD]; unfold gsyncD; split; omega; simp
  have HFS : Hid (∀ z ∈ ZS, -9223372036854775808 ≤ z ∧ z ≤ 9223372036854775807) := by unfold Hid; rw [← unhide HGD]; unfold gsyncD; split; exact unhide HFZ; simp
  go_enter Try.func16, Try.ntmps16
  go_wp2_with fail
  refine (sgG s l o ao zs.length cap 1048576 _ (by omega) (by omega)).mono ?_
  rintro e w1 ⟨rfl, hb⟩
  rw [if_pos hb2]
  (try rw [hlf])
  (try clear x0 x1 x2 x3 z0 z1 z2)
  replace HB := hide (below_tr (unhide HB) hb)
  replace HX := hide ((unhide HX).bel hb)
  replace HH := hide ((unhide HH).bel hb)
  clear hb
  have x0 := (unhide HX).cell 0 rfl
  have x1 := (unhide HX).cell 1 rfl
  have x2 := (unhide HX).cell 2 rfl
  have x3 := (unhide HX).cell 3 rfl
  have z0 := (unhide HH).cell 0 rfl
  have z1 := (unhide HH).cell 1 rfl
  have z2 := (unhide HH).cell 2 rfl
  go_wp2_with fail
  have HX1 := hide (unhide HX)
  have HH1 := hide (unhide HH)
  have HBB := hide (Below.refl w1.heap.size w1)
  have HL : Hid (Live w1 w1.heap.size []) := live_nil _ _
  (try clear x0 x1 x2 x3 z0 z1 z2)
  (try clear x0 x1 x2 x3 z0 z1 z2)
  refine wp_region_W (fun w' => Below w1.heap.size w1 w') (by kernel_rfl) (below_drew w1) (fun hHeld => ?_)
  refine tkW 0 (some 28) (v := ?_) ?_ ?_
  rotate_left
  · intro w hSw
    have hT := (unhide HX).below hSw; have x0 := hT.cell 0 rfl; have x1 := hT.cell 1 rfl; have x2 := hT.cell 2 rfl; have x3 := hT.cell 3 rfl
    first | (go_simp; done) | (go_simp; with_reducible rfl) | with_reducible rfl | rfl
  try simp only [Act.put, List.setIfInBounds_toArray, List.set_cons_zero, List.set_cons_succ]
  refine tkW 2 (some 30) (v := ?_) ?_ ?_
  rotate_left
  · intro w hSw
    have hT := (unhide HH).below hSw; have z0 := hT.cell 0 rfl; have z1 := hT.cell 1 rfl; have z2 := hT.cell 2 rfl
    first | (go_simp; done) | (go_simp; with_reducible rfl) | with_reducible rfl | rfl
  try simp only [Act.put, List.setIfInBounds_toArray, List.set_cons_zero, List.set_cons_succ]
  refine tkW 4 (some 32) (v := ?_) ?_ ?_
  rotate_left
  · intro w hSw
    first | (go_simp; done) | (go_simp; with_reducible rfl) | with_reducible rfl | rfl
  try simp only [Act.put, List.setIfInBounds_toArray, List.set_cons_zero, List.set_cons_succ]
  have HD := below_drew w1
  generalize w1.drew = V0 at *
  refine WA.inv (fun aa listed a w' => ∃ (f1 f3 f5 f6 f10 : Bool) (t8 t27 t29 t31 t33 t34 t35 t36 : Value), listed = #[true, f1, true, f3, true, f5, f6, f6, f6, f6, f10, false, false] ∧ a = ((((((((aa).put (some 8) t8).put (some 27) t27).put (some 29) t29).put (some 31) t31).put (some 33) t33).put (some 34) t34).put (some 35) t35).put (some 36) t36 ∧ Below w1.heap.size w1 w' ∧ (f1 = true → ∃ a c, t29 = gatV s l o (.slice a zs.length c) ∧ Own w' w1.heap.size (.slice a zs.length c) zs) ∧ (f3 = true → t31 = hedV s2 l2 o2) ∧ (f5 = true → ∃ a, t33 = .slice a ps.length ps.length ∧ Own w' w1.heap.size (.slice a ps.length ps.length) ps) ∧ (f6 = true → ∃ a c, t34 = .tuple #[gatV S L O (.slice a ZS.length c), .bool bb] ∧ t27 = .tuple #[gatV S L O (.slice a ZS.length c), .bool bb] ∧ t35 = gatV S L O (.slice a ZS.length c) ∧ t36 = .bool bb ∧ Own w' w1.heap.size (.slice a ZS.length c) ZS) ∧ (f10 = true → ∃ g, t8 = .pointer (some ⟨g, 0, none⟩) ∧ w'.ownsRow w1.heap.size 63 4 (.slice (some ⟨g, 0, none⟩) 1 1) 1 [.int .i64 0, .int .i64 0, .int .i64 0, .slice none 0 0])) [1, 3, 5, 6, 10] ?_ ?_ ?_ ?_
  · refine ⟨false, false, false, false, false, undef, undef, undef, undef, undef, undef, undef, undef, rfl, ?_, HD, (fun h => absurd h (by simp)), (fun h => absurd h (by simp)), (fun h => absurd h (by simp)), (fun h => absurd h (by simp)), (fun h => absurd h (by simp))⟩
    simp only [Act.put, List.setIfInBounds_toArray, List.set_cons_zero, List.set_cons_succ]
  · rintro listed a w' ⟨f1, f3, f5, f6, f10, t8, t27, t29, t31, t33, t34, t35, t36, rfl, ha, hb, h1, h3, h5, h6, h10⟩
    refine ⟨rfl, ?_⟩
    clear ha hb h1 h3 h5 h6 h10
    cases f1 <;> cases f3 <;> cases f5 <;> cases f6 <;> cases f10 <;> kernel_rfl
  · skip
    refine StepsW.cons (i := 1) (o := { dst := some 29, op := _, type := _, pos := _, after := _, guard := _ }) rfl ?_ ?_
    · as_aux_lemma =>
      rintro listed a w' ⟨f1, f3, f5, f6, f10, t8, t27, t29, t31, t33, t34, t35, t36, rfl, ha, hb, h1, h3, h5, h6, h10⟩ hun hd ih K' hK
      simp only [Act.put, List.setIfInBounds_toArray, List.set_cons_zero, List.set_cons_succ] at ha
      subst ha
      obtain rfl : f1 = false := hun
      replace h1 := hide h1
      replace h3 := hide h3
      replace h5 := hide h5
      replace h6 := hide h6
      replace h10 := hide h10
      go_simp
      go_at_call 88
      refine (c88 s l o zs ao zs.length cap _ rfl (by omega) ((unhide HR).bel (below_tr (unhide HB) (below_tr (unhide HBB) hb)))).mono ?_
      rintro e w2 ⟨v, rfl, ho, hb2⟩
      obtain ⟨a1, c1, rfl⟩ := live_form ho.2
      have hbb := below_then hb hb2
      try go_wp2_with fail
      refine hK.out _ _ hbb (fun hS => ?_)
      try simp only [List.setIfInBounds_toArray, List.set_cons_zero, List.set_cons_succ]
      refine ih _ _ _ ⟨true, f3, f5, f6, f10, t8, t27, (gatV s l o (.slice a1 zs.length c1)), t31, t33, t34, t35, t36, rfl, (by simp only [Act.put, List.setIfInBounds_toArray, List.set_cons_zero, List.set_cons_succ]), hbb, (fun _ => ⟨a1, c1, rfl, ho.mono hb.size⟩), (fun hh => (unhide h3 hh)), (fun hh => (by obtain ⟨a, e, r⟩ := (unhide h5 hh); exact ⟨a, e, r.bel hb2⟩)), (fun hh => (by obtain ⟨a, c, e1, e2, e3, e4, r⟩ := (unhide h6 hh); exact ⟨a, c, e1, e2, e3, e4, r.bel hb2⟩)), (fun hh => (by obtain ⟨g, e, r⟩ := (unhide h10 hh); exact ⟨g, e, owns_below r hb2⟩))⟩ ?_
      clear ih hd hb hbb hK h1 h3 h5 h6 h10
      cases f3 <;> cases f5 <;> cases f6 <;> cases f10 <;> decide
    refine StepsW.cons (i := 3) (o := { dst := some 31, op := _, type := _, pos := _, after := _, guard := _ }) rfl ?_ ?_
    · as_aux_lemma =>
      rintro listed a w' ⟨f1, f3, f5, f6, f10, t8, t27, t29, t31, t33, t34, t35, t36, rfl, ha, hb, h1, h3, h5, h6, h10⟩ hun hd ih K' hK
      simp only [Act.put, List.setIfInBounds_toArray, List.set_cons_zero, List.set_cons_succ] at ha
      subst ha
      obtain rfl : f3 = false := hun
      replace h1 := hide h1
      replace h3 := hide h3
      replace h5 := hide h5
      replace h6 := hide h6
      replace h10 := hide h10
      go_simp
      go_at_call 77
      refine (c77 s2 l2 o2 _).mono ?_
      rintro e w2 ⟨rfl, hb2⟩
      have hbb := below_then hb hb2
      try go_wp2_with fail
      refine hK.out _ _ hbb (fun hS => ?_)
      try simp only [List.setIfInBounds_toArray, List.set_cons_zero, List.set_cons_succ]
      refine ih _ _ _ ⟨f1, true, f5, f6, f10, t8, t27, t29, (hedV s2 l2 o2), t33, t34, t35, t36, rfl, (by simp only [Act.put, List.setIfInBounds_toArray, List.set_cons_zero, List.set_cons_succ]), hbb, (fun hh => (by obtain ⟨a, c, e, r⟩ := (unhide h1 hh); exact ⟨a, c, e, r.bel hb2⟩)), (fun _ => rfl), (fun hh => (by obtain ⟨a, e, r⟩ := (unhide h5 hh); exact ⟨a, e, r.bel hb2⟩)), (fun hh => (by obtain ⟨a, c, e1, e2, e3, e4, r⟩ := (unhide h6 hh); exact ⟨a, c, e1, e2, e3, e4, r.bel hb2⟩)), (fun hh => (by obtain ⟨g, e, r⟩ := (unhide h10 hh); exact ⟨g, e, owns_below r hb2⟩))⟩ ?_
      clear ih hd hb hbb hK h1 h3 h5 h6 h10
      cases f1 <;> cases f5 <;> cases f6 <;> cases f10 <;> decide
    refine StepsW.cons (i := 5) (o := { dst := some 33, op := _, type := _, pos := _, after := _, guard := _ }) rfl ?_ ?_
    · as_aux_lemma =>
      rintro listed a w' ⟨f1, f3, f5, f6, f10, t8, t27, t29, t31, t33, t34, t35, t36, rfl, ha, hb, h1, h3, h5, h6, h10⟩ hun hd ih K' hK
      simp only [Act.put, List.setIfInBounds_toArray, List.set_cons_zero, List.set_cons_succ] at ha
      subst ha
      obtain rfl : f5 = false := hun
      replace h1 := hide h1
      replace h3 := hide h3
      replace h5 := hide h5
      replace h6 := hide h6
      replace h10 := hide h10
      go_simp
      go_at_call 89
      refine (c89 ps bo ps.length cap' _ rfl (by omega) ((unhide HP).bel (below_tr (unhide HB) (below_tr (unhide HBB) hb)))).mono ?_
      rintro e w2 ⟨rfl, ho, hb2⟩
      generalize (some (⟨w'.heap.size, 0, none⟩ : Addr)) = a2 at *
      have hbb := below_then hb hb2
      try go_wp2_with fail
      refine hK.out _ _ hbb (fun hS => ?_)
      try simp only [List.setIfInBounds_toArray, List.set_cons_zero, List.set_cons_succ]
      refine ih _ _ _ ⟨f1, f3, true, f6, f10, t8, t27, t29, t31, (.slice a2 ps.length ps.length), t34, t35, t36, rfl, (by simp only [Act.put, List.setIfInBounds_toArray, List.set_cons_zero, List.set_cons_succ]), hbb, (fun hh => (by obtain ⟨a, c, e, r⟩ := (unhide h1 hh); exact ⟨a, c, e, r.bel hb2⟩)), (fun hh => (unhide h3 hh)), (fun _ => ⟨a2, rfl, ho.mono hb.size⟩), (fun hh => (by obtain ⟨a, c, e1, e2, e3, e4, r⟩ := (unhide h6 hh); exact ⟨a, c, e1, e2, e3, e4, r.bel hb2⟩)), (fun hh => (by obtain ⟨g, e, r⟩ := (unhide h10 hh); exact ⟨g, e, owns_below r hb2⟩))⟩ ?_
      clear ih hd hb hbb hK h1 h3 h5 h6 h10
      cases f1 <;> cases f3 <;> cases f6 <;> cases f10 <;> decide
    refine StepsW.cons (i := 6) (o := { dst := some 34, op := _, type := _, pos := _, after := _, guard := _ }) rfl ?_ ?_
    · as_aux_lemma =>
      rintro listed a w' ⟨f1, f3, f5, f6, f10, t8, t27, t29, t31, t33, t34, t35, t36, rfl, ha, hb, h1, h3, h5, h6, h10⟩ hun hd ih K' hK
      simp only [Act.put, List.setIfInBounds_toArray, List.set_cons_zero, List.set_cons_succ] at ha
      subst ha
      obtain rfl : f6 = false := hun
      obtain rfl : f1 = true := by cases f1; exact Bool.noConfusion (show false = true from hd); rfl
      obtain ⟨a1, c1, rfl, r1⟩ := h1 rfl
      clear h1
      obtain rfl : f3 = true := by cases f3; exact Bool.noConfusion (show false = true from hd); rfl
      obtain rfl := h3 rfl
      clear h3
      obtain rfl : f5 = true := by cases f5; exact Bool.noConfusion (show false = true from hd); rfl
      obtain ⟨a2, rfl, r2⟩ := h5 rfl
      clear h5
      replace h6 := hide h6
      replace h10 := hide h10
      go_simp
      go_at_call 56
      refine (c56 s l o zs a1 zs.length c1 s2 l2 o2 ps a2 ps.length ps.length _ rfl (by omega) (own_cap0' r1) (own_rowI r1) rfl (Nat.le_refl _) (by omega) (own_rowI r2)).mono ?_
      rintro e w2 ⟨v, rfl, ho, hb2⟩
      rw [unhide HGD] at ho
      rw [unhide HGH, unhide HGB]
      dsimp only
      obtain ⟨a3, c3, rfl⟩ := live_form ho.2
      have hbb := below_then hb hb2
      try go_wp2_with fail
      cases f10
      case false =>
        refine hK.out _ _ hbb (fun hS => ?_)
        try simp only [List.setIfInBounds_toArray, List.set_cons_zero, List.set_cons_succ]
        refine tkW 7 (some 27) (v := ?_) ?_ ?_
        rotate_left
        · intro w hSw
          first | (go_simp; done) | (go_simp; with_reducible rfl) | with_reducible rfl | rfl
        try simp only [Act.put, List.setIfInBounds_toArray, List.set_cons_zero, List.set_cons_succ]
        refine tkW 8 (some 35) (v := ?_) ?_ ?_
        rotate_left
        · intro w hSw
          first | (go_simp; done) | (go_simp; with_reducible rfl) | with_reducible rfl | rfl
        try simp only [Act.put, List.setIfInBounds_toArray, List.set_cons_zero, List.set_cons_succ]
        refine tkW 9 (some 36) (v := ?_) ?_ ?_
        rotate_left
        · intro w hSw
          first | (go_simp; done) | (go_simp; with_reducible rfl) | with_reducible rfl | rfl
        try simp only [Act.put, List.setIfInBounds_toArray, List.set_cons_zero, List.set_cons_succ]
        refine ih _ _ _ ⟨true, true, true, true, false, t8, (.tuple #[gatV S L O (.slice a3 ZS.length c3), .bool bb]), (gatV s l o (.slice a1 zs.length c1)), (hedV s2 l2 o2), (.slice a2 ps.length ps.length), (.tuple #[gatV S L O (.slice a3 ZS.length c3), .bool bb]), (gatV S L O (.slice a3 ZS.length c3)), (.bool bb), rfl, (by simp only [Act.put, List.setIfInBounds_toArray, List.set_cons_zero, List.set_cons_succ]), hbb, (fun _ => ⟨a1, c1, rfl, r1.bel hb2⟩), (fun _ => rfl), (fun _ => ⟨a2, rfl, r2.bel hb2⟩), (fun _ => ⟨a3, c3, rfl, rfl, rfl, rfl, ho.mono hb.size⟩), (fun hh => absurd hh (by simp))⟩ ?_
        clear ih hd hb hbb hK h6 h10
        decide
      case true =>
        refine hK.out _ _ hbb (fun hS => ?_)
        try simp only [List.setIfInBounds_toArray, List.set_cons_zero, List.set_cons_succ]
        refine tkW 7 (some 27) (v := ?_) ?_ ?_
        rotate_left
        · intro w hSw
          first | (go_simp; done) | (go_simp; with_reducible rfl) | with_reducible rfl | rfl
        try simp only [Act.put, List.setIfInBounds_toArray, List.set_cons_zero, List.set_cons_succ]
        refine tkW 8 (some 35) (v := ?_) ?_ ?_
        rotate_left
        · intro w hSw
          first | (go_simp; done) | (go_simp; with_reducible rfl) | with_reducible rfl | rfl
        try simp only [Act.put, List.setIfInBounds_toArray, List.set_cons_zero, List.set_cons_succ]
        refine tkW 9 (some 36) (v := ?_) ?_ ?_
        rotate_left
        · intro w hSw
          first | (go_simp; done) | (go_simp; with_reducible rfl) | with_reducible rfl | rfl
        try simp only [Act.put, List.setIfInBounds_toArray, List.set_cons_zero, List.set_cons_succ]
        refine ih _ _ _ ⟨true, true, true, true, true, t8, (.tuple #[gatV S L O (.slice a3 ZS.length c3), .bool bb]), (gatV s l o (.slice a1 zs.length c1)), (hedV s2 l2 o2), (.slice a2 ps.length ps.length), (.tuple #[gatV S L O (.slice a3 ZS.length c3), .bool bb]), (gatV S L O (.slice a3 ZS.length c3)), (.bool bb), rfl, (by simp only [Act.put, List.setIfInBounds_toArray, List.set_cons_zero, List.set_cons_succ]), hbb, (fun _ => ⟨a1, c1, rfl, r1.bel hb2⟩), (fun _ => rfl), (fun _ => ⟨a2, rfl, r2.bel hb2⟩), (fun _ => ⟨a3, c3, rfl, rfl, rfl, rfl, ho.mono hb.size⟩), (fun hh => (by obtain ⟨g, e, r⟩ := (unhide h10 rfl); exact ⟨g, e, owns_below r hb2⟩))⟩ ?_
        clear ih hd hb hbb hK h6 h10
        decide
    refine StepsW.cons (i := 10) (o := { dst := some 8, op := _, type := _, pos := _, after := _, guard := _ }) rfl ?_ ?_
    · as_aux_lemma =>
      rintro listed a w' ⟨f1, f3, f5, f6, f10, t8, t27, t29, t31, t33, t34, t35, t36, rfl, ha, hb, h1, h3, h5, h6, h10⟩ hun hd ih K' hK
      simp only [Act.put, List.setIfInBounds_toArray, List.set_cons_zero, List.set_cons_succ] at ha
      subst ha
      obtain rfl : f10 = false := hun
      replace h1 := hide h1
      replace h3 := hide h3
      replace h5 := hide h5
      replace h6 := hide h6
      replace h10 := hide h10
      go_simp
      have hb2 : Below w'.heap.size w' (w'.alloc (.cells #[.int .i64 0, .int .i64 0, .int .i64 0, .slice none 0 0] 63)) := below_a _
      have hnew : ∃ g, (Value.pointer (some ⟨w'.heap.size, 0, none⟩)) = .pointer (some ⟨g, 0, none⟩) ∧ (w'.alloc (.cells #[.int .i64 0, .int .i64 0, .int .i64 0, .slice none 0 0] 63)).ownsRow w1.heap.size 63 4 (.slice (some ⟨g, 0, none⟩) 1 1) 1 [.int .i64 0, .int .i64 0, .int .i64 0, .slice none 0 0] := ⟨_, rfl, World.ownsRow_lit w' #[.int .i64 0, .int .i64 0, .int .i64 0, .slice none 0 0] 1 hb.size (by decide) rfl⟩
      generalize (Value.pointer (some ⟨w'.heap.size, 0, none⟩)) = tn at *
      generalize (w'.alloc (.cells #[.int .i64 0, .int .i64 0, .int .i64 0, .slice none 0 0] 63)) = w2 at *
      have hbb := below_then hb hb2
      refine hK.out _ _ hbb (fun hS => ?_)
      try simp only [List.setIfInBounds_toArray, List.set_cons_zero, List.set_cons_succ]
      refine ih _ _ _ ⟨f1, f3, f5, f6, true, tn, t27, t29, t31, t33, t34, t35, t36, rfl, (by simp only [Act.put, List.setIfInBounds_toArray, List.set_cons_zero, List.set_cons_succ]), hbb, (fun hh => (by obtain ⟨a, c, e, r⟩ := (unhide h1 hh); exact ⟨a, c, e, r.bel hb2⟩)), (fun hh => (unhide h3 hh)), (fun hh => (by obtain ⟨a, e, r⟩ := (unhide h5 hh); exact ⟨a, e, r.bel hb2⟩)), (fun hh => (by obtain ⟨a, c, e1, e2, e3, e4, r⟩ := (unhide h6 hh); exact ⟨a, c, e1, e2, e3, e4, r.bel hb2⟩)), (fun _ => hnew)⟩ ?_
      clear ih hd hb hbb hK h1 h3 h5 h6 h10
      cases f1 <;> cases f3 <;> cases f5 <;> cases f6 <;> decide
    exact StepsW.nil
  rintro listed a w' ⟨f1, f3, f5, f6, f10, t8, t27, t29, t31, t33, t34, t35, t36, rfl, ha, hb, h1, h3, h5, h6, h10⟩ hall
  simp only [Act.put, List.setIfInBounds_toArray, List.set_cons_zero, List.set_cons_succ] at ha
  subst ha
  obtain rfl : f1 = true := hall 1 (by simp)
  obtain rfl : f3 = true := hall 3 (by simp)
  obtain rfl : f5 = true := hall 5 (by simp)
  obtain rfl : f6 = true := hall 6 (by simp)
  obtain rfl : f10 = true := hall 10 (by simp)
  obtain ⟨a1, c1, rfl, r1⟩ := h1 rfl
  obtain rfl := h3 rfl
  obtain ⟨a2, rfl, r2⟩ := h5 rfl
  obtain ⟨a3, c3, rfl, rfl, rfl, rfl, r3⟩ := h6 rfl
  obtain ⟨g4, rfl, r4⟩ := h10 rfl
  clear hall h1 h3 h5 h6 h10
  clear r1 r2
  have hg4 : w1.heap.size ≤ g4 := (r4.lt g4 rfl).1
  have hL2 := live_add2 (x := (3, 1, .slice a3 ZS.length c3, ZS.length, ZS.map (Value.int .i64))) (y := (63, 4, .slice (some ⟨g4, 0, none⟩) 1 1, 1, [.int .i64 0, .int .i64 0, .int .i64 0, .slice none 0 0])) (unhide HL) hb (unhide HBB).size r3.2 r4 (show (3 : Nat) ≠ 63 by decide)
  have q4 := boxRow (hL2.1 (63, 4, .slice (some ⟨g4, 0, none⟩) 1 1, 1, [.int .i64 0, .int .i64 0, .int .i64 0, .slice none 0 0]) (by simp))
  have y0 := q4.cell 0 rfl
  have y0f := q4.frozen 0 rfl
  have y1 := q4.cell 1 rfl
  have y1f := q4.frozen 1 rfl
  have y2 := q4.cell 2 rfl
  have y2f := q4.frozen 2 rfl
  have y3 := q4.cell 3 rfl
  have y3f := q4.frozen 3 rfl
  refine oneW 11 (o := { dst := none, op := _, type := _, pos := _, after := _, guard := _ }) (fun K hK => ?_)
  clear r3 r4 q4 hHeld
  go_simp
  have hL3 := (live_put (A := [(3, 1, .slice a3 ZS.length c3, ZS.length, ZS.map (Value.int .i64))]) (C := []) (live_put (A := [(3, 1, .slice a3 ZS.length c3, ZS.length, ZS.map (Value.int .i64))]) (C := []) (live_put (A := [(3, 1, .slice a3 ZS.length c3, ZS.length, ZS.map (Value.int .i64))]) (C := []) (live_put (A := [(3, 1, .slice a3 ZS.length c3, ZS.length, ZS.map (Value.int .i64))]) (C := []) hL2 0 (.int .i64 S)) 1 (.int .i64 L)) 2 (.int .i64 O)) 3 (.slice a3 ZS.length c3))
  have hbS := (below_sc (p := ⟨g4, 3, none⟩) (v := .slice a3 ZS.length c3) (below_sc (p := ⟨g4, 2, none⟩) (v := .int .i64 O) (below_sc (p := ⟨g4, 1, none⟩) (v := .int .i64 L) (below_sc (p := ⟨g4, 0, none⟩) (v := .int .i64 S) hb (by dsimp only; omega)) (by dsimp only; omega)) (by dsimp only; omega)) (by dsimp only; omega))
  refine hK.out _ _ hbS (fun hS3 => ?_)
  clear hK K hS3
  try simp only [List.setIfInBounds_toArray, List.set_cons_zero, List.set_cons_succ]
  replace HL := hide (show Live _ _ [(3, 1, .slice a3 ZS.length c3, ZS.length, ZS.map (Value.int .i64)), (63, 4, .slice (some ⟨g4, 0, none⟩) 1 1, 1, [.int .i64 S, .int .i64 L, .int .i64 O, .slice a3 ZS.length c3])] from hL3)
  (try clear y0 y1 y2 y3 y0f y1f y2f y3f)
  replace HBB := hide (below_tr (unhide HBB) hbS)
  replace HX := hide ((unhide HX).bel hbS)
  replace HH := hide ((unhide HH).bel hbS)
  clear hb hL2 hL3 hg4
  refine tkW 12 (some 9) (v := ?_) ?_ ?_
  rotate_left
  · intro w hSw
    first | (go_simp; done) | (go_simp; with_reducible rfl) | with_reducible rfl | rfl
  try simp only [Act.put, List.setIfInBounds_toArray, List.set_cons_zero, List.set_cons_succ]
  clear hbS
  refine doneW ?_
  obtain ⟨aW, ea⟩ : ∃ q, q = a3 := ⟨_, rfl⟩
  obtain ⟨cW, ec⟩ : ∃ q, q = c3 := ⟨_, rfl⟩
  obtain ⟨gW, eg⟩ : ∃ q, q = g4 := ⟨_, rfl⟩
  subst ea ec eg
  generalize ((((w').setCell ⟨gW, 0, none⟩ (.int .i64 S)).setCell ⟨gW, 1, none⟩ (.int .i64 L)).setCell ⟨gW, 2, none⟩ (.int .i64 O)).setCell ⟨gW, 3, none⟩ (.slice aW ZS.length cW) = w2 at *
  (try clear x0 x1 x2 x3 z0 z1 z2)
  have HQW := hide (boxRow ((unhide HL).1 (63, 4, .slice (some ⟨gW, 0, none⟩) 1 1, 1, [.int .i64 S, .int .i64 L, .int .i64 O, .slice aW ZS.length cW]) (by simp)))
  have x0 := (unhide HX).cell 0 rfl
  have x1 := (unhide HX).cell 1 rfl
  have x2 := (unhide HX).cell 2 rfl
  have x3 := (unhide HX).cell 3 rfl
  have z0 := (unhide HH).cell 0 rfl
  have z1 := (unhide HH).cell 1 rfl
  have z2 := (unhide HH).cell 2 rfl
  have u0 := (unhide HQW).cell 0 rfl
  have u1 := (unhide HQW).cell 1 rfl
  have u2 := (unhide HQW).cell 2 rfl
  have u3 := (unhide HQW).cell 3 rfl
  go_wp2_with fail
  refine (c88 s l o zs ao zs.length cap _ rfl (by omega) ((unhide HR).bel (below_tr (unhide HB) (unhide HBB)))).mono ?_
  rintro e w3 ⟨v, rfl, ho, hb⟩
  obtain ⟨aX, cX, rfl⟩ := live_form ho.2
  have hl2 := live_new (A := []) (C := [(3, 1, .slice aW ZS.length cW, ZS.length, ZS.map (Value.int .i64)), (63, 4, .slice (some ⟨gW, 0, none⟩) 1 1, 1, [.int .i64 S, .int .i64 L, .int .i64 O, .slice aW ZS.length cW])]) (T := 3) (n := 1) (v := .slice aX zs.length cX) (m := zs.length) (cs := zs.map (Value.int .i64)) (unhide HL) hb (owns_mono ho.2 (unhide HBB).size) (fun k hk => (ho.2.lt k hk).1)
  (try clear x0 x1 x2 x3 z0 z1 z2 u0 u1 u2 u3)
  replace HBB := hide (below_tr (unhide HBB) hb)
  replace HX := hide ((unhide HX).bel hb)
  replace HH := hide ((unhide HH).bel hb)
  replace HQW := hide ((unhide HQW).bel hb)
  clear HL
  have HL := hide (hl2)
  clear hb ho hl2
  have x0 := (unhide HX).cell 0 rfl
  have x1 := (unhide HX).cell 1 rfl
  have x2 := (unhide HX).cell 2 rfl
  have x3 := (unhide HX).cell 3 rfl
  have z0 := (unhide HH).cell 0 rfl
  have z1 := (unhide HH).cell 1 rfl
  have z2 := (unhide HH).cell 2 rfl
  have u0 := (unhide HQW).cell 0 rfl
  have u1 := (unhide HQW).cell 1 rfl
  have u2 := (unhide HQW).cell 2 rfl
  have u3 := (unhide HQW).cell 3 rfl
  (try clear x0 x1 x2 x3 z0 z1 z2 u0 u1 u2 u3)
  have hl2 := live_new (A := []) (C := [(3, 1, .slice aX zs.length cX, zs.length, zs.map (Value.int .i64)), (3, 1, .slice aW ZS.length cW, ZS.length, ZS.map (Value.int .i64)), (63, 4, .slice (some ⟨gW, 0, none⟩) 1 1, 1, [.int .i64 S, .int .i64 L, .int .i64 O, .slice aW ZS.length cW])]) (T := 63) (n := 4) (v := .slice (some ⟨w3.heap.size, 0, none⟩) 1 1) (m := 1) (cs := [.int .i64 s, .int .i64 l, .int .i64 o, .slice aX zs.length cX]) (unhide HL) (below_a (.cells #[.int .i64 s, .int .i64 l, .int .i64 o, .slice aX zs.length cX] 63)) (World.ownsRow_lit w3 #[.int .i64 s, .int .i64 l, .int .i64 o, .slice aX zs.length cX] 1 (unhide HBB).size (by decide) rfl) (fun k hk => by simp [Value.ownBlock] at hk; omega)
  (try clear x0 x1 x2 x3 z0 z1 z2 u0 u1 u2 u3)
  replace HBB := hide (below_al (o := .cells #[.int .i64 s, .int .i64 l, .int .i64 o, .slice aX zs.length cX] 63) (unhide HBB))
  replace HX := hide ((unhide HX).bel (below_a (.cells #[.int .i64 s, .int .i64 l, .int .i64 o, .slice aX zs.length cX] 63)))
  replace HH := hide ((unhide HH).bel (below_a (.cells #[.int .i64 s, .int .i64 l, .int .i64 o, .slice aX zs.length cX] 63)))
  replace HQW := hide ((unhide HQW).bel (below_a (.cells #[.int .i64 s, .int .i64 l, .int .i64 o, .slice aX zs.length cX] 63)))
  have HQX := hide (box_new w3 [.int .i64 s, .int .i64 l, .int .i64 o, .slice aX zs.length cX] 63 (by simp [Value.oneCell']))
  have x0 := (unhide HX).cell 0 rfl
  have x1 := (unhide HX).cell 1 rfl
  have x2 := (unhide HX).cell 2 rfl
  have x3 := (unhide HX).cell 3 rfl
  have z0 := (unhide HH).cell 0 rfl
  have z1 := (unhide HH).cell 1 rfl
  have z2 := (unhide HH).cell 2 rfl
  have u0 := (unhide HQW).cell 0 rfl
  have u1 := (unhide HQW).cell 1 rfl
  have u2 := (unhide HQW).cell 2 rfl
  have u3 := (unhide HQW).cell 3 rfl
  have q0 := (unhide HQX).cell 0 rfl
  have q1 := (unhide HQX).cell 1 rfl
  have q2 := (unhide HQX).cell 2 rfl
  have q3 := (unhide HQX).cell 3 rfl
  (try clear x0 x1 x2 x3 z0 z1 z2 u0 u1 u2 u3 q0 q1 q2 q3)
  replace HL := hide hl2
  clear hl2
  have x0 := (unhide HX).cell 0 rfl
  have x1 := (unhide HX).cell 1 rfl
  have x2 := (unhide HX).cell 2 rfl
  have x3 := (unhide HX).cell 3 rfl
  have z0 := (unhide HH).cell 0 rfl
  have z1 := (unhide HH).cell 1 rfl
  have z2 := (unhide HH).cell 2 rfl
  have u0 := (unhide HQW).cell 0 rfl
  have u1 := (unhide HQW).cell 1 rfl
  have u2 := (unhide HQW).cell 2 rfl
  have u3 := (unhide HQW).cell 3 rfl
  have q0 := (unhide HQX).cell 0 rfl
  have q1 := (unhide HQX).cell 1 rfl
  have q2 := (unhide HQX).cell 2 rfl
  have q3 := (unhide HQX).cell 3 rfl
  go_wp2_with fail
  refine (toI2 ps bo ps.length cap' _ rfl (by omega) ((unhide HP).bel (below_tr (unhide HB) (unhide HBB)))).mono ?_
  rintro e w4 ⟨aP, rfl, ho, hb⟩
  have hl2 := live_new (A := []) (C := [(63, 4, .slice (some ⟨w3.heap.size, 0, none⟩) 1 1, 1, [.int .i64 s, .int .i64 l, .int .i64 o, .slice aX zs.length cX]), (3, 1, .slice aX zs.length cX, zs.length, zs.map (Value.int .i64)), (3, 1, .slice aW ZS.length cW, ZS.length, ZS.map (Value.int .i64)), (63, 4, .slice (some ⟨gW, 0, none⟩) 1 1, 1, [.int .i64 S, .int .i64 L, .int .i64 O, .slice aW ZS.length cW])]) (T := 3) (n := 1) (v := .slice aP ps.length ps.length) (m := ps.length) (cs := ps.map (Value.int .i64)) (unhide HL) hb (owns_mono ho.2 (unhide HBB).size) (fun k hk => (ho.2.lt k hk).1)
  (try clear x0 x1 x2 x3 z0 z1 z2 u0 u1 u2 u3 q0 q1 q2 q3)
  replace HBB := hide (below_tr (unhide HBB) hb)
  replace HX := hide ((unhide HX).bel hb)
  replace HH := hide ((unhide HH).bel hb)
  replace HQW := hide ((unhide HQW).bel hb)
  replace HQX := hide ((unhide HQX).bel hb)
  clear HL
  have HL := hide (hl2)
  clear hb ho hl2
  have x0 := (unhide HX).cell 0 rfl
  have x1 := (unhide HX).cell 1 rfl
  have x2 := (unhide HX).cell 2 rfl
  have x3 := (unhide HX).cell 3 rfl
  have z0 := (unhide HH).cell 0 rfl
  have z1 := (unhide HH).cell 1 rfl
  have z2 := (unhide HH).cell 2 rfl
  have u0 := (unhide HQW).cell 0 rfl
  have u1 := (unhide HQW).cell 1 rfl
  have u2 := (unhide HQW).cell 2 rfl
  have u3 := (unhide HQW).cell 3 rfl
  have q0 := (unhide HQX).cell 0 rfl
  have q1 := (unhide HQX).cell 1 rfl
  have q2 := (unhide HQX).cell 2 rfl
  have q3 := (unhide HQX).cell 3 rfl
  go_wp2_with fail
  (try clear x0 x1 x2 x3 z0 z1 z2 u0 u1 u2 u3 q0 q1 q2 q3)
  (try clear x0 x1 x2 x3 z0 z1 z2 u0 u1 u2 u3 q0 q1 q2 q3)
  refine wp_region_W (fun w' => Below w4.heap.size w4 w') (by kernel_rfl) (below_drew w4) (fun hHeld => ?_)
  refine tkW 0 (some 42) (v := ?_) ?_ ?_
  rotate_left
  · intro w hSw
    have hT := (unhide HQX).below hSw; have q0 := hT.cell 0 rfl; have q1 := hT.cell 1 rfl; have q2 := hT.cell 2 rfl; have q3 := hT.cell 3 rfl
    first | (go_simp; done) | (go_simp; with_reducible rfl) | with_reducible rfl | rfl
  try simp only [Act.put, List.setIfInBounds_toArray, List.set_cons_zero, List.set_cons_succ]
  refine tkW 1 (some 43) (v := ?_) ?_ ?_
  rotate_left
  · intro w hSw
    have hT := (unhide HH).below hSw; have z0 := hT.cell 0 rfl; have z1 := hT.cell 1 rfl; have z2 := hT.cell 2 rfl
    first | (go_simp; done) | (go_simp; with_reducible rfl) | with_reducible rfl | rfl
  try simp only [Act.put, List.setIfInBounds_toArray, List.set_cons_zero, List.set_cons_succ]
  refine tkW 3 (some 45) (v := ?_) ?_ ?_
  rotate_left
  · intro w hSw
    first | (go_simp; done) | (go_simp; with_reducible rfl) | with_reducible rfl | rfl
  try simp only [Act.put, List.setIfInBounds_toArray, List.set_cons_zero, List.set_cons_succ]
  have HD := below_drew w4
  generalize w4.drew = V0 at *
  refine WA.inv (fun aa listed a w' => ∃ (f2 f4 f8 : Bool) (t12 t41 t44 t46 t47 t48 : Value), listed = #[true, true, f2, true, f4, f4, f4, f4, f8, false, false] ∧ a = ((((((aa).put (some 12) t12).put (some 41) t41).put (some 44) t44).put (some 46) t46).put (some 47) t47).put (some 48) t48 ∧ Below w4.heap.size w4 w' ∧ (f2 = true → t44 = hedV s2 l2 o2) ∧ (f4 = true → ∃ a c, t46 = .tuple #[gatV S L O (.slice a ZS.length c), .bool bb] ∧ t41 = .tuple #[gatV S L O (.slice a ZS.length c), .bool bb] ∧ t47 = gatV S L O (.slice a ZS.length c) ∧ t48 = .bool bb ∧ Own w' w4.heap.size (.slice a ZS.length c) ZS) ∧ (f8 = true → ∃ g, t12 = .pointer (some ⟨g, 0, none⟩) ∧ w'.ownsRow w4.heap.size 63 4 (.slice (some ⟨g, 0, none⟩) 1 1) 1 [.int .i64 0, .int .i64 0, .int .i64 0, .slice none 0 0])) [2, 4, 8] ?_ ?_ ?_ ?_
  · refine ⟨false, false, false, undef, undef, undef, undef, undef, undef, rfl, ?_, HD, (fun h => absurd h (by simp)), (fun h => absurd h (by simp)), (fun h => absurd h (by simp))⟩
    simp only [Act.put, List.setIfInBounds_toArray, List.set_cons_zero, List.set_cons_succ]
  · rintro listed a w' ⟨f2, f4, f8, t12, t41, t44, t46, t47, t48, rfl, ha, hb, h2, h4, h8⟩
    refine ⟨rfl, ?_⟩
    clear ha hb h2 h4 h8
    cases f2 <;> cases f4 <;> cases f8 <;> kernel_rfl
  · skip
    refine StepsW.cons (i := 2) (o := { dst := some 44, op := _, type := _, pos := _, after := _, guard := _ }) rfl ?_ ?_
    · as_aux_lemma =>
      rintro listed a w' ⟨f2, f4, f8, t12, t41, t44, t46, t47, t48, rfl, ha, hb, h2, h4, h8⟩ hun hd ih K' hK
      simp only [Act.put, List.setIfInBounds_toArray, List.set_cons_zero, List.set_cons_succ] at ha
      subst ha
      obtain rfl : f2 = false := hun
      replace h2 := hide h2
      replace h4 := hide h4
      replace h8 := hide h8
      go_simp
      go_at_call 77
      refine (c77 s2 l2 o2 _).mono ?_
      rintro e w2 ⟨rfl, hb2⟩
      have hbb := below_then hb hb2
      try go_wp2_with fail
      refine hK.out _ _ hbb (fun hS => ?_)
      try simp only [List.setIfInBounds_toArray, List.set_cons_zero, List.set_cons_succ]
      refine ih _ _ _ ⟨true, f4, f8, t12, t41, (hedV s2 l2 o2), t46, t47, t48, rfl, (by simp only [Act.put, List.setIfInBounds_toArray, List.set_cons_zero, List.set_cons_succ]), hbb, (fun _ => rfl), (fun hh => (by obtain ⟨a, c, e1, e2, e3, e4, r⟩ := (unhide h4 hh); exact ⟨a, c, e1, e2, e3, e4, r.bel hb2⟩)), (fun hh => (by obtain ⟨g, e, r⟩ := (unhide h8 hh); exact ⟨g, e, owns_below r hb2⟩))⟩ ?_
      clear ih hd hb hbb hK h2 h4 h8
      cases f4 <;> cases f8 <;> decide
    refine StepsW.cons (i := 4) (o := { dst := some 46, op := _, type := _, pos := _, after := _, guard := _ }) rfl ?_ ?_
    · as_aux_lemma =>
      rintro listed a w' ⟨f2, f4, f8, t12, t41, t44, t46, t47, t48, rfl, ha, hb, h2, h4, h8⟩ hun hd ih K' hK
      simp only [Act.put, List.setIfInBounds_toArray, List.set_cons_zero, List.set_cons_succ] at ha
      subst ha
      obtain rfl : f4 = false := hun
      obtain rfl : f2 = true := by cases f2; exact Bool.noConfusion (show false = true from hd); rfl
      obtain rfl := h2 rfl
      clear h2
      replace h4 := hide h4
      replace h8 := hide h8
      go_simp
      go_at_call 55
      refine (c55 s l o zs aX zs.length cX s2 l2 o2 ps aP ps.length ps.length _ rfl (by omega) (own_cap0' (show Own w' w1.heap.size (.slice aX zs.length cX) zs from ⟨unhide HFZ, ((unhide HL).bel hb).1 (3, 1, .slice aX zs.length cX, zs.length, zs.map (Value.int .i64)) (by simp)⟩)) (own_rowI (show Own w' w1.heap.size (.slice aX zs.length cX) zs from ⟨unhide HFZ, ((unhide HL).bel hb).1 (3, 1, .slice aX zs.length cX, zs.length, zs.map (Value.int .i64)) (by simp)⟩)) rfl (Nat.le_refl _) (by omega) (own_rowI (show Own w' w1.heap.size (.slice aP ps.length ps.length) ps from ⟨unhide HFP, ((unhide HL).bel hb).1 (3, 1, .slice aP ps.length ps.length, ps.length, ps.map (Value.int .i64)) (by simp)⟩))).mono ?_
      rintro e w2 ⟨v, rfl, ho, hb2⟩
      rw [unhide HGD] at ho
      rw [unhide HGH, unhide HGB]
      dsimp only
      obtain ⟨a3, c3, rfl⟩ := live_form ho.2
      have hbb := below_then hb hb2
      try go_wp2_with fail
      cases f8
      case false =>
        refine hK.out _ _ hbb (fun hS => ?_)
        try simp only [List.setIfInBounds_toArray, List.set_cons_zero, List.set_cons_succ]
        refine tkW 5 (some 41) (v := ?_) ?_ ?_
        rotate_left
        · intro w hSw
          first | (go_simp; done) | (go_simp; with_reducible rfl) | with_reducible rfl | rfl
        try simp only [Act.put, List.setIfInBounds_toArray, List.set_cons_zero, List.set_cons_succ]
        refine tkW 6 (some 47) (v := ?_) ?_ ?_
        rotate_left
        · intro w hSw
          first | (go_simp; done) | (go_simp; with_reducible rfl) | with_reducible rfl | rfl
        try simp only [Act.put, List.setIfInBounds_toArray, List.set_cons_zero, List.set_cons_succ]
        refine tkW 7 (some 48) (v := ?_) ?_ ?_
        rotate_left
        · intro w hSw
          first | (go_simp; done) | (go_simp; with_reducible rfl) | with_reducible rfl | rfl
        try simp only [Act.put, List.setIfInBounds_toArray, List.set_cons_zero, List.set_cons_succ]
        refine ih _ _ _ ⟨true, true, false, t12, (.tuple #[gatV S L O (.slice a3 ZS.length c3), .bool bb]), (hedV s2 l2 o2), (.tuple #[gatV S L O (.slice a3 ZS.length c3), .bool bb]), (gatV S L O (.slice a3 ZS.length c3)), (.bool bb), rfl, (by simp only [Act.put, List.setIfInBounds_toArray, List.set_cons_zero, List.set_cons_succ]), hbb, (fun _ => rfl), (fun _ => ⟨a3, c3, rfl, rfl, rfl, rfl, ho.mono hb.size⟩), (fun hh => absurd hh (by simp))⟩ ?_
        clear ih hd hb hbb hK h4 h8
        decide
      case true =>
        refine hK.out _ _ hbb (fun hS => ?_)
        try simp only [List.setIfInBounds_toArray, List.set_cons_zero, List.set_cons_succ]
        refine tkW 5 (some 41) (v := ?_) ?_ ?_
        rotate_left
        · intro w hSw
          first | (go_simp; done) | (go_simp; with_reducible rfl) | with_reducible rfl | rfl
        try simp only [Act.put, List.setIfInBounds_toArray, List.set_cons_zero, List.set_cons_succ]
        refine tkW 6 (some 47) (v := ?_) ?_ ?_
        rotate_left
        · intro w hSw
          first | (go_simp; done) | (go_simp; with_reducible rfl) | with_reducible rfl | rfl
        try simp only [Act.put, List.setIfInBounds_toArray, List.set_cons_zero, List.set_cons_succ]
        refine tkW 7 (some 48) (v := ?_) ?_ ?_
        rotate_left
        · intro w hSw
          first | (go_simp; done) | (go_simp; with_reducible rfl) | with_reducible rfl | rfl
        try simp only [Act.put, List.setIfInBounds_toArray, List.set_cons_zero, List.set_cons_succ]
        refine ih _ _ _ ⟨true, true, true, t12, (.tuple #[gatV S L O (.slice a3 ZS.length c3), .bool bb]), (hedV s2 l2 o2), (.tuple #[gatV S L O (.slice a3 ZS.length c3), .bool bb]), (gatV S L O (.slice a3 ZS.length c3)), (.bool bb), rfl, (by simp only [Act.put, List.setIfInBounds_toArray, List.set_cons_zero, List.set_cons_succ]), hbb, (fun _ => rfl), (fun _ => ⟨a3, c3, rfl, rfl, rfl, rfl, ho.mono hb.size⟩), (fun hh => (by obtain ⟨g, e, r⟩ := (unhide h8 rfl); exact ⟨g, e, owns_below r hb2⟩))⟩ ?_
        clear ih hd hb hbb hK h4 h8
        decide
    refine StepsW.cons (i := 8) (o := { dst := some 12, op := _, type := _, pos := _, after := _, guard := _ }) rfl ?_ ?_
    · as_aux_lemma =>
      rintro listed a w' ⟨f2, f4, f8, t12, t41, t44, t46, t47, t48, rfl, ha, hb, h2, h4, h8⟩ hun hd ih K' hK
      simp only [Act.put, List.setIfInBounds_toArray, List.set_cons_zero, List.set_cons_succ] at ha
      subst ha
      obtain rfl : f8 = false := hun
      replace h2 := hide h2
      replace h4 := hide h4
      replace h8 := hide h8
      go_simp
      have hb2 : Below w'.heap.size w' (w'.alloc (.cells #[.int .i64 0, .int .i64 0, .int .i64 0, .slice none 0 0] 63)) := below_a _
      have hnew : ∃ g, (Value.pointer (some ⟨w'.heap.size, 0, none⟩)) = .pointer (some ⟨g, 0, none⟩) ∧ (w'.alloc (.cells #[.int .i64 0, .int .i64 0, .int .i64 0, .slice none 0 0] 63)).ownsRow w4.heap.size 63 4 (.slice (some ⟨g, 0, none⟩) 1 1) 1 [.int .i64 0, .int .i64 0, .int .i64 0, .slice none 0 0] := ⟨_, rfl, World.ownsRow_lit w' #[.int .i64 0, .int .i64 0, .int .i64 0, .slice none 0 0] 1 hb.size (by decide) rfl⟩
      generalize (Value.pointer (some ⟨w'.heap.size, 0, none⟩)) = tn at *
      generalize (w'.alloc (.cells #[.int .i64 0, .int .i64 0, .int .i64 0, .slice none 0 0] 63)) = w2 at *
      have hbb := below_then hb hb2
      refine hK.out _ _ hbb (fun hS => ?_)
      try simp only [List.setIfInBounds_toArray, List.set_cons_zero, List.set_cons_succ]
      refine ih _ _ _ ⟨f2, f4, true, tn, t41, t44, t46, t47, t48, rfl, (by simp only [Act.put, List.setIfInBounds_toArray, List.set_cons_zero, List.set_cons_succ]), hbb, (fun hh => (unhide h2 hh)), (fun hh => (by obtain ⟨a, c, e1, e2, e3, e4, r⟩ := (unhide h4 hh); exact ⟨a, c, e1, e2, e3, e4, r.bel hb2⟩)), (fun _ => hnew)⟩ ?_
      clear ih hd hb hbb hK h2 h4 h8
      cases f2 <;> cases f4 <;> decide
    exact StepsW.nil
  rintro listed a w' ⟨f2, f4, f8, t12, t41, t44, t46, t47, t48, rfl, ha, hb, h2, h4, h8⟩ hall
  simp only [Act.put, List.setIfInBounds_toArray, List.set_cons_zero, List.set_cons_succ] at ha
  subst ha
  obtain rfl : f2 = true := hall 2 (by simp)
  obtain rfl : f4 = true := hall 4 (by simp)
  obtain rfl : f8 = true := hall 8 (by simp)
  obtain rfl := h2 rfl
  obtain ⟨a3, c3, rfl, rfl, rfl, rfl, r3⟩ := h4 rfl
  obtain ⟨g4, rfl, r4⟩ := h8 rfl
  clear hall h2 h4 h8
  have hg4 : w4.heap.size ≤ g4 := (r4.lt g4 rfl).1
  have hL2 := live_add2 (x := (3, 1, .slice a3 ZS.length c3, ZS.length, ZS.map (Value.int .i64))) (y := (63, 4, .slice (some ⟨g4, 0, none⟩) 1 1, 1, [.int .i64 0, .int .i64 0, .int .i64 0, .slice none 0 0])) (unhide HL) hb (unhide HBB).size r3.2 r4 (show (3 : Nat) ≠ 63 by decide)
  have q4 := boxRow (hL2.1 (63, 4, .slice (some ⟨g4, 0, none⟩) 1 1, 1, [.int .i64 0, .int .i64 0, .int .i64 0, .slice none 0 0]) (by simp))
  have y0 := q4.cell 0 rfl
  have y0f := q4.frozen 0 rfl
  have y1 := q4.cell 1 rfl
  have y1f := q4.frozen 1 rfl
  have y2 := q4.cell 2 rfl
  have y2f := q4.frozen 2 rfl
  have y3 := q4.cell 3 rfl
  have y3f := q4.frozen 3 rfl
  refine oneW 9 (o := { dst := none, op := _, type := _, pos := _, after := _, guard := _ }) (fun K hK => ?_)
  clear r3 r4 q4 hHeld
  go_simp
  have hL3 := (live_put (A := [(3, 1, .slice a3 ZS.length c3, ZS.length, ZS.map (Value.int .i64))]) (C := [(3, 1, .slice aP ps.length ps.length, ps.length, ps.map (Value.int .i64)), (63, 4, .slice (some ⟨w3.heap.size, 0, none⟩) 1 1, 1, [.int .i64 s, .int .i64 l, .int .i64 o, .slice aX zs.length cX]), (3, 1, .slice aX zs.length cX, zs.length, zs.map (Value.int .i64)), (3, 1, .slice aW ZS.length cW, ZS.length, ZS.map (Value.int .i64)), (63, 4, .slice (some ⟨gW, 0, none⟩) 1 1, 1, [.int .i64 S, .int .i64 L, .int .i64 O, .slice aW ZS.length cW])]) (live_put (A := [(3, 1, .slice a3 ZS.length c3, ZS.length, ZS.map (Value.int .i64))]) (C := [(3, 1, .slice aP ps.length ps.length, ps.length, ps.map (Value.int .i64)), (63, 4, .slice (some ⟨w3.heap.size, 0, none⟩) 1 1, 1, [.int .i64 s, .int .i64 l, .int .i64 o, .slice aX zs.length cX]), (3, 1, .slice aX zs.length cX, zs.length, zs.map (Value.int .i64)), (3, 1, .slice aW ZS.length cW, ZS.length, ZS.map (Value.int .i64)), (63, 4, .slice (some ⟨gW, 0, none⟩) 1 1, 1, [.int .i64 S, .int .i64 L, .int .i64 O, .slice aW ZS.length cW])]) (live_put (A := [(3, 1, .slice a3 ZS.length c3, ZS.length, ZS.map (Value.int .i64))]) (C := [(3, 1, .slice aP ps.length ps.length, ps.length, ps.map (Value.int .i64)), (63, 4, .slice (some ⟨w3.heap.size, 0, none⟩) 1 1, 1, [.int .i64 s, .int .i64 l, .int .i64 o, .slice aX zs.length cX]), (3, 1, .slice aX zs.length cX, zs.length, zs.map (Value.int .i64)), (3, 1, .slice aW ZS.length cW, ZS.length, ZS.map (Value.int .i64)), (63, 4, .slice (some ⟨gW, 0, none⟩) 1 1, 1, [.int .i64 S, .int .i64 L, .int .i64 O, .slice aW ZS.length cW])]) (live_put (A := [(3, 1, .slice a3 ZS.length c3, ZS.length, ZS.map (Value.int .i64))]) (C := [(3, 1, .slice aP ps.length ps.length, ps.length, ps.map (Value.int .i64)), (63, 4, .slice (some ⟨w3.heap.size, 0, none⟩) 1 1, 1, [.int .i64 s, .int .i64 l, .int .i64 o, .slice aX zs.length cX]), (3, 1, .slice aX zs.length cX, zs.length, zs.map (Value.int .i64)), (3, 1, .slice aW ZS.length cW, ZS.length, ZS.map (Value.int .i64)), (63, 4, .slice (some ⟨gW, 0, none⟩) 1 1, 1, [.int .i64 S, .int .i64 L, .int .i64 O, .slice aW ZS.length cW])]) hL2 0 (.int .i64 S)) 1 (.int .i64 L)) 2 (.int .i64 O)) 3 (.slice a3 ZS.length c3))
  have hbS := (below_sc (p := ⟨g4, 3, none⟩) (v := .slice a3 ZS.length c3) (below_sc (p := ⟨g4, 2, none⟩) (v := .int .i64 O) (below_sc (p := ⟨g4, 1, none⟩) (v := .int .i64 L) (below_sc (p := ⟨g4, 0, none⟩) (v := .int .i64 S) hb (by dsimp only; omega)) (by dsimp only; omega)) (by dsimp only; omega)) (by dsimp only; omega))
  refine hK.out _ _ hbS (fun hS3 => ?_)
  clear hK K hS3
  try simp only [List.setIfInBounds_toArray, List.set_cons_zero, List.set_cons_succ]
  replace HL := hide (show Live _ _ [(3, 1, .slice a3 ZS.length c3, ZS.length, ZS.map (Value.int .i64)), (63, 4, .slice (some ⟨g4, 0, none⟩) 1 1, 1, [.int .i64 S, .int .i64 L, .int .i64 O, .slice a3 ZS.length c3]), (3, 1, .slice aP ps.length ps.length, ps.length, ps.map (Value.int .i64)), (63, 4, .slice (some ⟨w3.heap.size, 0, none⟩) 1 1, 1, [.int .i64 s, .int .i64 l, .int .i64 o, .slice aX zs.length cX]), (3, 1, .slice aX zs.length cX, zs.length, zs.map (Value.int .i64)), (3, 1, .slice aW ZS.length cW, ZS.length, ZS.map (Value.int .i64)), (63, 4, .slice (some ⟨gW, 0, none⟩) 1 1, 1, [.int .i64 S, .int .i64 L, .int .i64 O, .slice aW ZS.length cW])] from hL3)
  (try clear y0 y1 y2 y3 y0f y1f y2f y3f)
  replace HBB := hide (below_tr (unhide HBB) hbS)
  replace HX := hide ((unhide HX).bel hbS)
  replace HH := hide ((unhide HH).bel hbS)
  replace HQW := hide ((unhide HQW).bel hbS)
  replace HQX := hide ((unhide HQX).bel hbS)
  clear hb hL2 hL3 hg4
  refine tkW 10 (some 13) (v := ?_) ?_ ?_
  rotate_left
  · intro w hSw
    first | (go_simp; done) | (go_simp; with_reducible rfl) | with_reducible rfl | rfl
  try simp only [Act.put, List.setIfInBounds_toArray, List.set_cons_zero, List.set_cons_succ]
  clear hbS
  refine doneW ?_
  obtain ⟨aG, ea⟩ : ∃ q, q = a3 := ⟨_, rfl⟩
  obtain ⟨cG, ec⟩ : ∃ q, q = c3 := ⟨_, rfl⟩
  obtain ⟨gG, eg⟩ : ∃ q, q = g4 := ⟨_, rfl⟩
  subst ea ec eg
  generalize ((((w').setCell ⟨gG, 0, none⟩ (.int .i64 S)).setCell ⟨gG, 1, none⟩ (.int .i64 L)).setCell ⟨gG, 2, none⟩ (.int .i64 O)).setCell ⟨gG, 3, none⟩ (.slice aG ZS.length cG) = w5 at *
  have HQG := hide (boxRow ((unhide HL).1 (63, 4, .slice (some ⟨gG, 0, none⟩) 1 1, 1, [.int .i64 S, .int .i64 L, .int .i64 O, .slice aG ZS.length cG]) (by simp)))
  have x0 := (unhide HX).cell 0 rfl
  have x1 := (unhide HX).cell 1 rfl
  have x2 := (unhide HX).cell 2 rfl
  have x3 := (unhide HX).cell 3 rfl
  have z0 := (unhide HH).cell 0 rfl
  have z1 := (unhide HH).cell 1 rfl
  have z2 := (unhide HH).cell 2 rfl
  have u0 := (unhide HQW).cell 0 rfl
  have u1 := (unhide HQW).cell 1 rfl
  have u2 := (unhide HQW).cell 2 rfl
  have u3 := (unhide HQW).cell 3 rfl
  have q0 := (unhide HQX).cell 0 rfl
  have q1 := (unhide HQX).cell 1 rfl
  have q2 := (unhide HQX).cell 2 rfl
  have q3 := (unhide HQX).cell 3 rfl
  have p0 := (unhide HQG).cell 0 rfl
  have p1 := (unhide HQG).cell 1 rfl
  have p2 := (unhide HQG).cell 2 rfl
  have p3 := (unhide HQG).cell 3 rfl
  go_wp2_with fail
  refine (sameG S L O ZS aG aW ZS.length cG cW _ rfl hzl (own_rowI (show Own _ w1.heap.size (.slice aG ZS.length cG) ZS from ⟨unhide HFS, (unhide HL).1 (3, 1, .slice aG ZS.length cG, ZS.length, ZS.map (Value.int .i64)) (by simp)⟩)) (own_rowI (show Own _ w1.heap.size (.slice aW ZS.length cW) ZS from ⟨unhide HFS, (unhide HL).1 (3, 1, .slice aW ZS.length cW, ZS.length, ZS.map (Value.int .i64)) (by simp)⟩))).mono ?_
  rintro e w6 ⟨rfl, hb⟩
  (try clear x0 x1 x2 x3 z0 z1 z2 u0 u1 u2 u3 q0 q1 q2 q3 p0 p1 p2 p3)
  replace HBB := hide (below_tr (unhide HBB) hb)
  replace HX := hide ((unhide HX).bel hb)
  replace HH := hide ((unhide HH).bel hb)
  replace HQW := hide ((unhide HQW).bel hb)
  replace HQX := hide ((unhide HQX).bel hb)
  replace HL := hide ((unhide HL).bel hb)
  replace HQG := hide ((unhide HQG).bel hb)
  clear hb
  have x0 := (unhide HX).cell 0 rfl
  have x1 := (unhide HX).cell 1 rfl
  have x2 := (unhide HX).cell 2 rfl
  have x3 := (unhide HX).cell 3 rfl
  have z0 := (unhide HH).cell 0 rfl
  have z1 := (unhide HH).cell 1 rfl
  have z2 := (unhide HH).cell 2 rfl
  have u0 := (unhide HQW).cell 0 rfl
  have u1 := (unhide HQW).cell 1 rfl
  have u2 := (unhide HQW).cell 2 rfl
  have u3 := (unhide HQW).cell 3 rfl
  have q0 := (unhide HQX).cell 0 rfl
  have q1 := (unhide HQX).cell 1 rfl
  have q2 := (unhide HQX).cell 2 rfl
  have q3 := (unhide HQX).cell 3 rfl
  have p0 := (unhide HQG).cell 0 rfl
  have p1 := (unhide HQG).cell 1 rfl
  have p2 := (unhide HQG).cell 2 rfl
  have p3 := (unhide HQG).cell 3 rfl
  go_wp2_with fail
  (try clear x0 x1 x2 x3 z0 z1 z2 u0 u1 u2 u3 q0 q1 q2 q3 p0 p1 p2 p3)
  (try clear x0 x1 x2 x3 z0 z1 z2 u0 u1 u2 u3 q0 q1 q2 q3 p0 p1 p2 p3)
  refine wp_region_held_drew (S := fun w' => Below w6.heap.size w6 w') (by kernel_rfl) (below_drew w6) (fun hHeld => ?_)
  refine wpAnyH_take (i := 0) (oi := { dst := some 58, op := _, type := _, pos := _, after := _, guard := _ }) (v := ?_) rfl (by kernel_rfl) (by kernel_rfl) (by kernel_rfl) (fun _ _ _ h => h) (Or.inl ⟨by rfl, ?_⟩) (by assumption) ?_
  rotate_left
  · intro w hSw
    have hT := (unhide HX).below hSw; have x0 := hT.cell 0 rfl; have x1 := hT.cell 1 rfl; have x2 := hT.cell 2 rfl; have x3 := hT.cell 3 rfl; clear hT; have hT := (unhide HH).below hSw; have z0 := hT.cell 0 rfl; have z1 := hT.cell 1 rfl; have z2 := hT.cell 2 rfl; clear hT; have hT := (unhide HQW).below hSw; have u0 := hT.cell 0 rfl; have u1 := hT.cell 1 rfl; have u2 := hT.cell 2 rfl; have u3 := hT.cell 3 rfl; clear hT; have hT := (unhide HQX).below hSw; have q0 := hT.cell 0 rfl; have q1 := hT.cell 1 rfl; have q2 := hT.cell 2 rfl; have q3 := hT.cell 3 rfl; clear hT; have hT := (unhide HQG).below hSw; have p0 := hT.cell 0 rfl; have p1 := hT.cell 1 rfl; have p2 := hT.cell 2 rfl; have p3 := hT.cell 3 rfl; clear hT
    first | (go_simp; done) | (go_simp; with_reducible rfl) | with_reducible rfl | rfl
  try simp only [Act.put, List.setIfInBounds_toArray, List.set_cons_zero, List.set_cons_succ]
  refine wpAnyH_take (i := 1) (oi := { dst := some 59, op := _, type := _, pos := _, after := _, guard := _ }) (v := ?_) rfl (by kernel_rfl) (by kernel_rfl) (by kernel_rfl) (fun _ _ _ h => h) (Or.inl ⟨by rfl, ?_⟩) (by assumption) ?_
  rotate_left
  · intro w hSw
    have hT := (unhide HX).below hSw; have x0 := hT.cell 0 rfl; have x1 := hT.cell 1 rfl; have x2 := hT.cell 2 rfl; have x3 := hT.cell 3 rfl; clear hT; have hT := (unhide HH).below hSw; have z0 := hT.cell 0 rfl; have z1 := hT.cell 1 rfl; have z2 := hT.cell 2 rfl; clear hT; have hT := (unhide HQW).below hSw; have u0 := hT.cell 0 rfl; have u1 := hT.cell 1 rfl; have u2 := hT.cell 2 rfl; have u3 := hT.cell 3 rfl; clear hT; have hT := (unhide HQX).below hSw; have q0 := hT.cell 0 rfl; have q1 := hT.cell 1 rfl; have q2 := hT.cell 2 rfl; have q3 := hT.cell 3 rfl; clear hT; have hT := (unhide HQG).below hSw; have p0 := hT.cell 0 rfl; have p1 := hT.cell 1 rfl; have p2 := hT.cell 2 rfl; have p3 := hT.cell 3 rfl; clear hT
    first | (go_simp; done) | (go_simp; with_reducible rfl) | with_reducible rfl | rfl
  try simp only [Act.put, List.setIfInBounds_toArray, List.set_cons_zero, List.set_cons_succ]
  have HD := below_drew w6
  generalize w6.drew = V0 at *
  refine wpAnyH_ready (rs := [2]) (by kernel_rfl) (by simp) ?_
  refine AllReadyH.cons (o := { dst := some 60, op := _, type := _, pos := _, after := _, guard := _ }) rfl (fun K hK => ?_) AllReadyH.nil
  go_simp
  go_at_call 88
  refine (c88 s l o zs ao zs.length cap _ rfl (by omega) ((unhide HR).bel (below_tr (unhide HB) (below_tr (unhide HBB) HD)))).mono ?_
  rintro e V1 ⟨v, rfl, ho, hb⟩
  replace HD := below_then HD hb
  clear hb
  obtain ⟨aZ, cZ, rfl⟩ := live_form ho.2
  have hoV := own_rowI ho
  clear ho
  try go_wp2_with fail
  refine hK.out _ _ HD (fun hHeld => ?_)
  clear hK K hHeld
  try simp only [Act.put, List.setIfInBounds_toArray, List.set_cons_zero, List.set_cons_succ]
  refine wpAnyH_ready (rs := [3]) (by kernel_rfl) (by simp) ?_
  refine AllReadyH.cons (o := { dst := some 61, op := _, type := _, pos := _, after := _, guard := _ }) rfl (fun K hK => ?_) AllReadyH.nil
  go_simp
  go_at_call 90
  refine (sameG s l o zs aX aZ zs.length cX cZ _ rfl hb2 (own_rowI (show Own _ w1.heap.size (.slice aX zs.length cX) zs from ⟨unhide HFZ, ((unhide HL).bel HD).1 (3, 1, .slice aX zs.length cX, zs.length, zs.map (Value.int .i64)) (by simp)⟩)) hoV).mono ?_
  rintro e V2 ⟨rfl, hb⟩
  replace hoV := hoV.bel hb
  replace HD := below_then HD hb
  clear hb
  try go_wp2_with fail
  refine hK.out _ _ HD (fun hHeld => ?_)
  clear hK K hHeld
  try simp only [Act.put, List.setIfInBounds_toArray, List.set_cons_zero, List.set_cons_succ]
  refine wpAnyH_take (i := 4) (oi := { dst := some 62, op := _, type := _, pos := _, after := _, guard := _ }) (v := ?_) rfl (by kernel_rfl) (by kernel_rfl) (by kernel_rfl) (fun _ _ _ h => h) (Or.inl ⟨by rfl, ?_⟩) (by assumption) ?_
  rotate_left
  · intro w hSw
    first | (go_simp; done) | (go_simp; with_reducible rfl) | with_reducible rfl | rfl
  try simp only [Act.put, List.setIfInBounds_toArray, List.set_cons_zero, List.set_cons_succ]
  refine wpAnyH_done (by kernel_rfl) ?_ _
  replace HBB := hide (below_tr (unhide HBB) HD)
  replace HX := hide ((unhide HX).bel HD)
  replace HH := hide ((unhide HH).bel HD)
  replace HQW := hide ((unhide HQW).bel HD)
  replace HQX := hide ((unhide HQX).bel HD)
  replace HL := hide ((unhide HL).bel HD)
  replace HQG := hide ((unhide HQG).bel HD)
  have HhoV := hide hoV
  clear HD hoV
  have x0 := (unhide HX).cell 0 rfl
  have x1 := (unhide HX).cell 1 rfl
  have x2 := (unhide HX).cell 2 rfl
  have x3 := (unhide HX).cell 3 rfl
  have z0 := (unhide HH).cell 0 rfl
  have z1 := (unhide HH).cell 1 rfl
  have z2 := (unhide HH).cell 2 rfl
  have u0 := (unhide HQW).cell 0 rfl
  have u1 := (unhide HQW).cell 1 rfl
  have u2 := (unhide HQW).cell 2 rfl
  have u3 := (unhide HQW).cell 3 rfl
  have q0 := (unhide HQX).cell 0 rfl
  have q1 := (unhide HQX).cell 1 rfl
  have q2 := (unhide HQX).cell 2 rfl
  have q3 := (unhide HQX).cell 3 rfl
  have p0 := (unhide HQG).cell 0 rfl
  have p1 := (unhide HQG).cell 1 rfl
  have p2 := (unhide HQG).cell 2 rfl
  have p3 := (unhide HQG).cell 3 rfl
  clear HhoV
  go_wp2_with fail
  refine (toI2 ps bo ps.length cap' _ rfl (by omega) ((unhide HP).bel (below_tr (unhide HB) (unhide HBB)))).mono ?_
  rintro e w7 ⟨aQ, rfl, ho, hb⟩
  (try clear x0 x1 x2 x3 z0 z1 z2 u0 u1 u2 u3 q0 q1 q2 q3 p0 p1 p2 p3)
  replace HBB := hide (below_tr (unhide HBB) hb)
  replace HX := hide ((unhide HX).bel hb)
  replace HH := hide ((unhide HH).bel hb)
  replace HQW := hide ((unhide HQW).bel hb)
  replace HQX := hide ((unhide HQX).bel hb)
  replace HL := hide ((unhide HL).bel hb)
  replace HQG := hide ((unhide HQG).bel hb)
  have HQ2 := hide (own_rowI ho)
  clear hb ho
  have x0 := (unhide HX).cell 0 rfl
  have x1 := (unhide HX).cell 1 rfl
  have x2 := (unhide HX).cell 2 rfl
  have x3 := (unhide HX).cell 3 rfl
  have z0 := (unhide HH).cell 0 rfl
  have z1 := (unhide HH).cell 1 rfl
  have z2 := (unhide HH).cell 2 rfl
  have u0 := (unhide HQW).cell 0 rfl
  have u1 := (unhide HQW).cell 1 rfl
  have u2 := (unhide HQW).cell 2 rfl
  have u3 := (unhide HQW).cell 3 rfl
  have q0 := (unhide HQX).cell 0 rfl
  have q1 := (unhide HQX).cell 1 rfl
  have q2 := (unhide HQX).cell 2 rfl
  have q3 := (unhide HQX).cell 3 rfl
  have p0 := (unhide HQG).cell 0 rfl
  have p1 := (unhide HQG).cell 1 rfl
  have p2 := (unhide HQG).cell 2 rfl
  have p3 := (unhide HQG).cell 3 rfl
  go_wp2_with fail
  refine (sameI ps aP aQ ps.length ps.length ps.length _ rfl (by omega) (own_rowI (show Own _ w1.heap.size (.slice aP ps.length ps.length) ps from ⟨unhide HFP, (unhide HL).1 (3, 1, .slice aP ps.length ps.length, ps.length, ps.map (Value.int .i64)) (by simp)⟩)) (unhide HQ2)).mono ?_
  rintro e w8 ⟨rfl, hb⟩
  (try clear x0 x1 x2 x3 z0 z1 z2 u0 u1 u2 u3 q0 q1 q2 q3 p0 p1 p2 p3)
  replace HBB := hide (below_tr (unhide HBB) hb)
  replace HX := hide ((unhide HX).bel hb)
  replace HH := hide ((unhide HH).bel hb)
  replace HQW := hide ((unhide HQW).bel hb)
  replace HQX := hide ((unhide HQX).bel hb)
  replace HL := hide ((unhide HL).bel hb)
  replace HQG := hide ((unhide HQG).bel hb)
  clear HQ2
  clear hb
  have x0 := (unhide HX).cell 0 rfl
  have x1 := (unhide HX).cell 1 rfl
  have x2 := (unhide HX).cell 2 rfl
  have x3 := (unhide HX).cell 3 rfl
  have z0 := (unhide HH).cell 0 rfl
  have z1 := (unhide HH).cell 1 rfl
  have z2 := (unhide HH).cell 2 rfl
  have u0 := (unhide HQW).cell 0 rfl
  have u1 := (unhide HQW).cell 1 rfl
  have u2 := (unhide HQW).cell 2 rfl
  have u3 := (unhide HQW).cell 3 rfl
  have q0 := (unhide HQX).cell 0 rfl
  have q1 := (unhide HQX).cell 1 rfl
  have q2 := (unhide HQX).cell 2 rfl
  have q3 := (unhide HQX).cell 3 rfl
  have p0 := (unhide HQG).cell 0 rfl
  have p1 := (unhide HQG).cell 1 rfl
  have p2 := (unhide HQG).cell 2 rfl
  have p3 := (unhide HQG).cell 3 rfl
  go_wp2_with fail
  obtain ⟨qk, hqk⟩ : ∃ q : Nat, q = zs.length + 1 := ⟨_, rfl⟩
  have hk1 : ((zs.length : Int) + 1) = (qk : Int) := by omega
  have hk2 : ¬ ((ps.length : Int) + (qk : Int) < 0) := by omega
  have hk3 : ¬ ((ZS.length : Int) + 1 < 0) := by omega
  have hqk2 : qk ≤ 100000000 := by omega
  clear hqk
  have hrw := (unhide HL).1 (3, 1, .slice aX zs.length cX, zs.length, zs.map (Value.int .i64)) (by simp)
  refine (markG s l o zs _ aX zs.length cX _ rfl hb2 (show Own _ w1.heap.size (.slice aX zs.length cX) zs from ⟨unhide HFZ, (unhide HL).1 (3, 1, .slice aX zs.length cX, zs.length, zs.map (Value.int .i64)) (by simp)⟩)).mono ?_
  rintro e w9 ⟨rfl, hh, hg⟩
  (try clear x0 x1 x2 x3 z0 z1 z2 u0 u1 u2 u3 q0 q1 q2 q3 p0 p1 p2 p3)
  replace HL := hide (live_drop (A := [(3, 1, .slice aG ZS.length cG, ZS.length, ZS.map (Value.int .i64)), (63, 4, .slice (some ⟨gG, 0, none⟩) 1 1, 1, [.int .i64 S, .int .i64 L, .int .i64 O, .slice aG ZS.length cG]), (3, 1, .slice aP ps.length ps.length, ps.length, ps.map (Value.int .i64)), (63, 4, .slice (some ⟨w3.heap.size, 0, none⟩) 1 1, 1, [.int .i64 s, .int .i64 l, .int .i64 o, .slice aX zs.length cX])]) (C := [(3, 1, .slice aW ZS.length cW, ZS.length, ZS.map (Value.int .i64)), (63, 4, .slice (some ⟨gW, 0, none⟩) 1 1, 1, [.int .i64 S, .int .i64 L, .int .i64 O, .slice aW ZS.length cW])]) (unhide HL) hg)
  replace HBB := hide (grown_below (unhide HBB) hg (fun q hq => (hrw.lt q hq).1))
  simp only [List.cons_append, List.nil_append] at HL
  clear hg hrw
  (try clear x0 x1 x2 x3 z0 z1 z2 u0 u1 u2 u3 q0 q1 q2 q3 p0 p1 p2 p3)
  replace HX := hide ((unhide HX1).bel (unhide HBB))
  replace HH := hide ((unhide HH1).bel (unhide HBB))
  replace HQW := hide (boxRow ((unhide HL).1 (63, 4, .slice (some ⟨gW, 0, none⟩) 1 1, 1, [.int .i64 S, .int .i64 L, .int .i64 O, .slice aW ZS.length cW]) (by simp)))
  replace HQX := hide (boxRow ((unhide HL).1 (63, 4, .slice (some ⟨w3.heap.size, 0, none⟩) 1 1, 1, [.int .i64 s, .int .i64 l, .int .i64 o, .slice aX zs.length cX]) (by simp)))
  replace HQG := hide (boxRow ((unhide HL).1 (63, 4, .slice (some ⟨gG, 0, none⟩) 1 1, 1, [.int .i64 S, .int .i64 L, .int .i64 O, .slice aG ZS.length cG]) (by simp)))
  have x0 := (unhide HX).cell 0 rfl
  have x1 := (unhide HX).cell 1 rfl
  have x2 := (unhide HX).cell 2 rfl
  have x3 := (unhide HX).cell 3 rfl
  have z0 := (unhide HH).cell 0 rfl
  have z1 := (unhide HH).cell 1 rfl
  have z2 := (unhide HH).cell 2 rfl
  have u0 := (unhide HQW).cell 0 rfl
  have u1 := (unhide HQW).cell 1 rfl
  have u2 := (unhide HQW).cell 2 rfl
  have u3 := (unhide HQW).cell 3 rfl
  have q0 := (unhide HQX).cell 0 rfl
  have q1 := (unhide HQX).cell 1 rfl
  have q2 := (unhide HQX).cell 2 rfl
  have q3 := (unhide HQX).cell 3 rfl
  have p0 := (unhide HQG).cell 0 rfl
  have p1 := (unhide HQG).cell 1 rfl
  have p2 := (unhide HQG).cell 2 rfl
  have p3 := (unhide HQG).cell 3 rfl
  rw [hk1]
  clear hh
  go_wp2_with fail
  have hrw := (unhide HL).1 (3, 1, .slice aP ps.length ps.length, ps.length, ps.map (Value.int .i64)) (by simp)
  refine (c93g ps _ qk (.slice aP ps.length ps.length) _ (by omega) hqk2 (show Own _ w1.heap.size (.slice aP ps.length ps.length) ps from ⟨unhide HFP, (unhide HL).1 (3, 1, .slice aP ps.length ps.length, ps.length, ps.map (Value.int .i64)) (by simp)⟩)).mono ?_
  rintro e w10 ⟨rfl, -, hg⟩
  (try clear x0 x1 x2 x3 z0 z1 z2 u0 u1 u2 u3 q0 q1 q2 q3 p0 p1 p2 p3)
  replace HL := hide (live_drop (A := [(3, 1, .slice aG ZS.length cG, ZS.length, ZS.map (Value.int .i64)), (63, 4, .slice (some ⟨gG, 0, none⟩) 1 1, 1, [.int .i64 S, .int .i64 L, .int .i64 O, .slice aG ZS.length cG])]) (C := [(63, 4, .slice (some ⟨w3.heap.size, 0, none⟩) 1 1, 1, [.int .i64 s, .int .i64 l, .int .i64 o, .slice aX zs.length cX]), (3, 1, .slice aW ZS.length cW, ZS.length, ZS.map (Value.int .i64)), (63, 4, .slice (some ⟨gW, 0, none⟩) 1 1, 1, [.int .i64 S, .int .i64 L, .int .i64 O, .slice aW ZS.length cW])]) (unhide HL) hg)
  replace HBB := hide (grown_below (unhide HBB) hg (fun q hq => (hrw.lt q hq).1))
  simp only [List.cons_append, List.nil_append] at HL
  clear hg hrw
  (try clear x0 x1 x2 x3 z0 z1 z2 u0 u1 u2 u3 q0 q1 q2 q3 p0 p1 p2 p3)
  replace HX := hide ((unhide HX1).bel (unhide HBB))
  replace HH := hide ((unhide HH1).bel (unhide HBB))
  replace HQW := hide (boxRow ((unhide HL).1 (63, 4, .slice (some ⟨gW, 0, none⟩) 1 1, 1, [.int .i64 S, .int .i64 L, .int .i64 O, .slice aW ZS.length cW]) (by simp)))
  replace HQX := hide (boxRow ((unhide HL).1 (63, 4, .slice (some ⟨w3.heap.size, 0, none⟩) 1 1, 1, [.int .i64 s, .int .i64 l, .int .i64 o, .slice aX zs.length cX]) (by simp)))
  replace HQG := hide (boxRow ((unhide HL).1 (63, 4, .slice (some ⟨gG, 0, none⟩) 1 1, 1, [.int .i64 S, .int .i64 L, .int .i64 O, .slice aG ZS.length cG]) (by simp)))
  have x0 := (unhide HX).cell 0 rfl
  have x1 := (unhide HX).cell 1 rfl
  have x2 := (unhide HX).cell 2 rfl
  have x3 := (unhide HX).cell 3 rfl
  have z0 := (unhide HH).cell 0 rfl
  have z1 := (unhide HH).cell 1 rfl
  have z2 := (unhide HH).cell 2 rfl
  have u0 := (unhide HQW).cell 0 rfl
  have u1 := (unhide HQW).cell 1 rfl
  have u2 := (unhide HQW).cell 2 rfl
  have u3 := (unhide HQW).cell 3 rfl
  have q0 := (unhide HQX).cell 0 rfl
  have q1 := (unhide HQX).cell 1 rfl
  have q2 := (unhide HQX).cell 2 rfl
  have q3 := (unhide HQX).cell 3 rfl
  have p0 := (unhide HQG).cell 0 rfl
  have p1 := (unhide HQG).cell 1 rfl
  have p2 := (unhide HQG).cell 2 rfl
  have p3 := (unhide HQG).cell 3 rfl
  go_wp2_with fail
  refine (sameG S L O ZS aG aW ZS.length cG cW _ rfl hzl (own_rowI (show Own _ w1.heap.size (.slice aG ZS.length cG) ZS from ⟨unhide HFS, (unhide HL).1 (3, 1, .slice aG ZS.length cG, ZS.length, ZS.map (Value.int .i64)) (by simp)⟩)) (own_rowI (show Own _ w1.heap.size (.slice aW ZS.length cW) ZS from ⟨unhide HFS, (unhide HL).1 (3, 1, .slice aW ZS.length cW, ZS.length, ZS.map (Value.int .i64)) (by simp)⟩))).mono ?_
  rintro e w11 ⟨rfl, hb⟩
  (try clear x0 x1 x2 x3 z0 z1 z2 u0 u1 u2 u3 q0 q1 q2 q3 p0 p1 p2 p3)
  replace HBB := hide (below_tr (unhide HBB) hb)
  replace HX := hide ((unhide HX).bel hb)
  replace HH := hide ((unhide HH).bel hb)
  replace HQW := hide ((unhide HQW).bel hb)
  replace HQX := hide ((unhide HQX).bel hb)
  replace HL := hide ((unhide HL).bel hb)
  replace HQG := hide ((unhide HQG).bel hb)
  clear hb
  have x0 := (unhide HX).cell 0 rfl
  have x1 := (unhide HX).cell 1 rfl
  have x2 := (unhide HX).cell 2 rfl
  have x3 := (unhide HX).cell 3 rfl
  have z0 := (unhide HH).cell 0 rfl
  have z1 := (unhide HH).cell 1 rfl
  have z2 := (unhide HH).cell 2 rfl
  have u0 := (unhide HQW).cell 0 rfl
  have u1 := (unhide HQW).cell 1 rfl
  have u2 := (unhide HQW).cell 2 rfl
  have u3 := (unhide HQW).cell 3 rfl
  have q0 := (unhide HQX).cell 0 rfl
  have q1 := (unhide HQX).cell 1 rfl
  have q2 := (unhide HQX).cell 2 rfl
  have q3 := (unhide HQX).cell 3 rfl
  have p0 := (unhide HQG).cell 0 rfl
  have p1 := (unhide HQG).cell 1 rfl
  have p2 := (unhide HQG).cell 2 rfl
  have p3 := (unhide HQG).cell 3 rfl
  go_wp2_with fail
  have hrw := (unhide HL).1 (3, 1, .slice aG ZS.length cG, ZS.length, ZS.map (Value.int .i64)) (by simp)
  refine (markG S L O ZS _ aG ZS.length cG _ rfl hzl (show Own _ w1.heap.size (.slice aG ZS.length cG) ZS from ⟨unhide HFS, (unhide HL).1 (3, 1, .slice aG ZS.length cG, ZS.length, ZS.map (Value.int .i64)) (by simp)⟩)).mono ?_
  rintro e w12 ⟨rfl, hh, hg⟩
  (try clear x0 x1 x2 x3 z0 z1 z2 u0 u1 u2 u3 q0 q1 q2 q3 p0 p1 p2 p3)
  replace HL := hide (live_drop (A := []) (C := [(63, 4, .slice (some ⟨gG, 0, none⟩) 1 1, 1, [.int .i64 S, .int .i64 L, .int .i64 O, .slice aG ZS.length cG]), (63, 4, .slice (some ⟨w3.heap.size, 0, none⟩) 1 1, 1, [.int .i64 s, .int .i64 l, .int .i64 o, .slice aX zs.length cX]), (3, 1, .slice aW ZS.length cW, ZS.length, ZS.map (Value.int .i64)), (63, 4, .slice (some ⟨gW, 0, none⟩) 1 1, 1, [.int .i64 S, .int .i64 L, .int .i64 O, .slice aW ZS.length cW])]) (unhide HL) hg)
  replace HBB := hide (grown_below (unhide HBB) hg (fun q hq => (hrw.lt q hq).1))
  clear hg hrw
  have HHG := hide hh
  clear hh
  (try clear x0 x1 x2 x3 z0 z1 z2 u0 u1 u2 u3 q0 q1 q2 q3 p0 p1 p2 p3)
  replace HX := hide ((unhide HX1).bel (unhide HBB))
  replace HH := hide ((unhide HH1).bel (unhide HBB))
  replace HQW := hide (boxRow ((unhide HL).1 (63, 4, .slice (some ⟨gW, 0, none⟩) 1 1, 1, [.int .i64 S, .int .i64 L, .int .i64 O, .slice aW ZS.length cW]) (by simp)))
  replace HQX := hide (boxRow ((unhide HL).1 (63, 4, .slice (some ⟨w3.heap.size, 0, none⟩) 1 1, 1, [.int .i64 s, .int .i64 l, .int .i64 o, .slice aX zs.length cX]) (by simp)))
  replace HQG := hide (boxRow ((unhide HL).1 (63, 4, .slice (some ⟨gG, 0, none⟩) 1 1, 1, [.int .i64 S, .int .i64 L, .int .i64 O, .slice aG ZS.length cG]) (by simp)))
  have x0 := (unhide HX).cell 0 rfl
  have x1 := (unhide HX).cell 1 rfl
  have x2 := (unhide HX).cell 2 rfl
  have x3 := (unhide HX).cell 3 rfl
  have z0 := (unhide HH).cell 0 rfl
  have z1 := (unhide HH).cell 1 rfl
  have z2 := (unhide HH).cell 2 rfl
  have u0 := (unhide HQW).cell 0 rfl
  have u1 := (unhide HQW).cell 1 rfl
  have u2 := (unhide HQW).cell 2 rfl
  have u3 := (unhide HQW).cell 3 rfl
  have q0 := (unhide HQX).cell 0 rfl
  have q1 := (unhide HQX).cell 1 rfl
  have q2 := (unhide HQX).cell 2 rfl
  have q3 := (unhide HQX).cell 3 rfl
  have p0 := (unhide HQG).cell 0 rfl
  have p1 := (unhide HQG).cell 1 rfl
  have p2 := (unhide HQG).cell 2 rfl
  have p3 := (unhide HQG).cell 3 rfl
  go_wp2_with fail
  refine (heldG S L O ZS aG ZS.length cG _ rfl hzl (unhide HHG)).mono ?_
  rintro e w13 ⟨rfl, hb⟩
  (try clear x0 x1 x2 x3 z0 z1 z2 u0 u1 u2 u3 q0 q1 q2 q3 p0 p1 p2 p3)
  replace HBB := hide (below_tr (unhide HBB) hb)
  replace HX := hide ((unhide HX).bel hb)
  replace HH := hide ((unhide HH).bel hb)
  replace HQW := hide ((unhide HQW).bel hb)
  replace HQX := hide ((unhide HQX).bel hb)
  replace HL := hide ((unhide HL).bel hb)
  replace HQG := hide ((unhide HQG).bel hb)
  replace HHG := hide ((unhide HHG).bel hb)
  clear hb
  have x0 := (unhide HX).cell 0 rfl
  have x1 := (unhide HX).cell 1 rfl
  have x2 := (unhide HX).cell 2 rfl
  have x3 := (unhide HX).cell 3 rfl
  have z0 := (unhide HH).cell 0 rfl
  have z1 := (unhide HH).cell 1 rfl
  have z2 := (unhide HH).cell 2 rfl
  have u0 := (unhide HQW).cell 0 rfl
  have u1 := (unhide HQW).cell 1 rfl
  have u2 := (unhide HQW).cell 2 rfl
  have u3 := (unhide HQW).cell 3 rfl
  have q0 := (unhide HQX).cell 0 rfl
  have q1 := (unhide HQX).cell 1 rfl
  have q2 := (unhide HQX).cell 2 rfl
  have q3 := (unhide HQX).cell 3 rfl
  have p0 := (unhide HQG).cell 0 rfl
  have p1 := (unhide HQG).cell 1 rfl
  have p2 := (unhide HQG).cell 2 rfl
  have p3 := (unhide HQG).cell 3 rfl
  go_wp2_with fail
  (try clear x0 x1 x2 x3 z0 z1 z2 u0 u1 u2 u3 q0 q1 q2 q3 p0 p1 p2 p3)
  (try clear x0 x1 x2 x3 z0 z1 z2 u0 u1 u2 u3 q0 q1 q2 q3 p0 p1 p2 p3)
  refine wp_region_W (fun w' => Below w13.heap.size w13 w') (by kernel_rfl) (below_drew w13) (fun hHeld => ?_)
  refine tkW 0 (some 99) (v := ?_) ?_ ?_
  rotate_left
  · intro w hSw
    have hT := (unhide HX).below hSw; have x0 := hT.cell 0 rfl; have x1 := hT.cell 1 rfl; have x2 := hT.cell 2 rfl; have x3 := hT.cell 3 rfl
    first | (go_simp; done) | (go_simp; with_reducible rfl) | with_reducible rfl | rfl
  try simp only [Act.put, List.setIfInBounds_toArray, List.set_cons_zero, List.set_cons_succ]
  refine tkW 2 (some 101) (v := ?_) ?_ ?_
  rotate_left
  · intro w hSw
    have hT := (unhide HH).below hSw; have z0 := hT.cell 0 rfl; have z1 := hT.cell 1 rfl; have z2 := hT.cell 2 rfl
    first | (go_simp; done) | (go_simp; with_reducible rfl) | with_reducible rfl | rfl
  try simp only [Act.put, List.setIfInBounds_toArray, List.set_cons_zero, List.set_cons_succ]
  refine tkW 4 (some 103) (v := ?_) ?_ ?_
  rotate_left
  · intro w hSw
    first | (go_simp; done) | (go_simp; with_reducible rfl) | with_reducible rfl | rfl
  try simp only [Act.put, List.setIfInBounds_toArray, List.set_cons_zero, List.set_cons_succ]
  have HD := below_drew w13
  generalize w13.drew = V0 at *
  refine WA.inv (fun aa listed a w' => ∃ (f1 f3 f5 f6 f10 : Bool) (t17 t98 t100 t102 t104 t105 t106 t107 : Value), listed = #[true, f1, true, f3, true, f5, f6, f6, f6, f6, f10, false, false] ∧ a = ((((((((aa).put (some 17) t17).put (some 98) t98).put (some 100) t100).put (some 102) t102).put (some 104) t104).put (some 105) t105).put (some 106) t106).put (some 107) t107 ∧ Below w13.heap.size w13 w' ∧ (f1 = true → ∃ a c, t100 = gatV s l o (.slice a zs.length c) ∧ Own w' w13.heap.size (.slice a zs.length c) zs) ∧ (f3 = true → t102 = hedV s2 l2 o2) ∧ (f5 = true → ∃ a, t104 = .slice a ps.length ps.length ∧ Own w' w13.heap.size (.slice a ps.length ps.length) ps) ∧ (f6 = true → ∃ a c, t105 = .tuple #[gatV S L O (.slice a ZS.length c), .bool bb] ∧ t98 = .tuple #[gatV S L O (.slice a ZS.length c), .bool bb] ∧ t106 = gatV S L O (.slice a ZS.length c) ∧ t107 = .bool bb ∧ Own w' w13.heap.size (.slice a ZS.length c) ZS) ∧ (f10 = true → ∃ g, t17 = .pointer (some ⟨g, 0, none⟩) ∧ w'.ownsRow w13.heap.size 63 4 (.slice (some ⟨g, 0, none⟩) 1 1) 1 [.int .i64 0, .int .i64 0, .int .i64 0, .slice none 0 0])) [1, 3, 5, 6, 10] ?_ ?_ ?_ ?_
  · refine ⟨false, false, false, false, false, undef, undef, undef, undef, undef, undef, undef, undef, rfl, ?_, HD, (fun h => absurd h (by simp)), (fun h => absurd h (by simp)), (fun h => absurd h (by simp)), (fun h => absurd h (by simp)), (fun h => absurd h (by simp))⟩
    simp only [Act.put, List.setIfInBounds_toArray, List.set_cons_zero, List.set_cons_succ]
  · rintro listed a w' ⟨f1, f3, f5, f6, f10, t17, t98, t100, t102, t104, t105, t106, t107, rfl, ha, hb, h1, h3, h5, h6, h10⟩
    refine ⟨rfl, ?_⟩
    clear ha hb h1 h3 h5 h6 h10
    cases f1 <;> cases f3 <;> cases f5 <;> cases f6 <;> cases f10 <;> kernel_rfl
  · skip
    refine StepsW.cons (i := 1) (o := { dst := some 100, op := _, type := _, pos := _, after := _, guard := _ }) rfl ?_ ?_
    · as_aux_lemma =>
      rintro listed a w' ⟨f1, f3, f5, f6, f10, t17, t98, t100, t102, t104, t105, t106, t107, rfl, ha, hb, h1, h3, h5, h6, h10⟩ hun hd ih K' hK
      simp only [Act.put, List.setIfInBounds_toArray, List.set_cons_zero, List.set_cons_succ] at ha
      subst ha
      obtain rfl : f1 = false := hun
      replace h1 := hide h1
      replace h3 := hide h3
      replace h5 := hide h5
      replace h6 := hide h6
      replace h10 := hide h10
      go_simp
      go_at_call 88
      refine (c88 s l o zs ao zs.length cap _ rfl (by omega) ((unhide HR).bel (below_tr (unhide HB) (below_tr (unhide HBB) hb)))).mono ?_
      rintro e w2 ⟨v, rfl, ho, hb2⟩
      obtain ⟨a1, c1, rfl⟩ := live_form ho.2
      have hbb := below_then hb hb2
      try go_wp2_with fail
      refine hK.out _ _ hbb (fun hS => ?_)
      try simp only [List.setIfInBounds_toArray, List.set_cons_zero, List.set_cons_succ]
      refine ih _ _ _ ⟨true, f3, f5, f6, f10, t17, t98, (gatV s l o (.slice a1 zs.length c1)), t102, t104, t105, t106, t107, rfl, (by simp only [Act.put, List.setIfInBounds_toArray, List.set_cons_zero, List.set_cons_succ]), hbb, (fun _ => ⟨a1, c1, rfl, ho.mono hb.size⟩), (fun hh => (unhide h3 hh)), (fun hh => (by obtain ⟨a, e, r⟩ := (unhide h5 hh); exact ⟨a, e, r.bel hb2⟩)), (fun hh => (by obtain ⟨a, c, e1, e2, e3, e4, r⟩ := (unhide h6 hh); exact ⟨a, c, e1, e2, e3, e4, r.bel hb2⟩)), (fun hh => (by obtain ⟨g, e, r⟩ := (unhide h10 hh); exact ⟨g, e, owns_below r hb2⟩))⟩ ?_
      clear ih hd hb hbb hK h1 h3 h5 h6 h10
      cases f3 <;> cases f5 <;> cases f6 <;> cases f10 <;> decide
    refine StepsW.cons (i := 3) (o := { dst := some 102, op := _, type := _, pos := _, after := _, guard := _ }) rfl ?_ ?_
    · as_aux_lemma =>
      rintro listed a w' ⟨f1, f3, f5, f6, f10, t17, t98, t100, t102, t104, t105, t106, t107, rfl, ha, hb, h1, h3, h5, h6, h10⟩ hun hd ih K' hK
      simp only [Act.put, List.setIfInBounds_toArray, List.set_cons_zero, List.set_cons_succ] at ha
      subst ha
      obtain rfl : f3 = false := hun
      replace h1 := hide h1
      replace h3 := hide h3
      replace h5 := hide h5
      replace h6 := hide h6
      replace h10 := hide h10
      go_simp
      go_at_call 77
      refine (c77 s2 l2 o2 _).mono ?_
      rintro e w2 ⟨rfl, hb2⟩
      have hbb := below_then hb hb2
      try go_wp2_with fail
      refine hK.out _ _ hbb (fun hS => ?_)
      try simp only [List.setIfInBounds_toArray, List.set_cons_zero, List.set_cons_succ]
      refine ih _ _ _ ⟨f1, true, f5, f6, f10, t17, t98, t100, (hedV s2 l2 o2), t104, t105, t106, t107, rfl, (by simp only [Act.put, List.setIfInBounds_toArray, List.set_cons_zero, List.set_cons_succ]), hbb, (fun hh => (by obtain ⟨a, c, e, r⟩ := (unhide h1 hh); exact ⟨a, c, e, r.bel hb2⟩)), (fun _ => rfl), (fun hh => (by obtain ⟨a, e, r⟩ := (unhide h5 hh); exact ⟨a, e, r.bel hb2⟩)), (fun hh => (by obtain ⟨a, c, e1, e2, e3, e4, r⟩ := (unhide h6 hh); exact ⟨a, c, e1, e2, e3, e4, r.bel hb2⟩)), (fun hh => (by obtain ⟨g, e, r⟩ := (unhide h10 hh); exact ⟨g, e, owns_below r hb2⟩))⟩ ?_
      clear ih hd hb hbb hK h1 h3 h5 h6 h10
      cases f1 <;> cases f5 <;> cases f6 <;> cases f10 <;> decide
    refine StepsW.cons (i := 5) (o := { dst := some 104, op := _, type := _, pos := _, after := _, guard := _ }) rfl ?_ ?_
    · as_aux_lemma =>
      rintro listed a w' ⟨f1, f3, f5, f6, f10, t17, t98, t100, t102, t104, t105, t106, t107, rfl, ha, hb, h1, h3, h5, h6, h10⟩ hun hd ih K' hK
      simp only [Act.put, List.setIfInBounds_toArray, List.set_cons_zero, List.set_cons_succ] at ha
      subst ha
      obtain rfl : f5 = false := hun
      replace h1 := hide h1
      replace h3 := hide h3
      replace h5 := hide h5
      replace h6 := hide h6
      replace h10 := hide h10
      go_simp
      go_at_call 89
      refine (c89 ps bo ps.length cap' _ rfl (by omega) ((unhide HP).bel (below_tr (unhide HB) (below_tr (unhide HBB) hb)))).mono ?_
      rintro e w2 ⟨rfl, ho, hb2⟩
      generalize (some (⟨w'.heap.size, 0, none⟩ : Addr)) = a2 at *
      have hbb := below_then hb hb2
      try go_wp2_with fail
      refine hK.out _ _ hbb (fun hS => ?_)
      try simp only [List.setIfInBounds_toArray, List.set_cons_zero, List.set_cons_succ]
      refine ih _ _ _ ⟨f1, f3, true, f6, f10, t17, t98, t100, t102, (.slice a2 ps.length ps.length), t105, t106, t107, rfl, (by simp only [Act.put, List.setIfInBounds_toArray, List.set_cons_zero, List.set_cons_succ]), hbb, (fun hh => (by obtain ⟨a, c, e, r⟩ := (unhide h1 hh); exact ⟨a, c, e, r.bel hb2⟩)), (fun hh => (unhide h3 hh)), (fun _ => ⟨a2, rfl, ho.mono hb.size⟩), (fun hh => (by obtain ⟨a, c, e1, e2, e3, e4, r⟩ := (unhide h6 hh); exact ⟨a, c, e1, e2, e3, e4, r.bel hb2⟩)), (fun hh => (by obtain ⟨g, e, r⟩ := (unhide h10 hh); exact ⟨g, e, owns_below r hb2⟩))⟩ ?_
      clear ih hd hb hbb hK h1 h3 h5 h6 h10
      cases f1 <;> cases f3 <;> cases f6 <;> cases f10 <;> decide
    refine StepsW.cons (i := 6) (o := { dst := some 105, op := _, type := _, pos := _, after := _, guard := _ }) rfl ?_ ?_
    · as_aux_lemma =>
      rintro listed a w' ⟨f1, f3, f5, f6, f10, t17, t98, t100, t102, t104, t105, t106, t107, rfl, ha, hb, h1, h3, h5, h6, h10⟩ hun hd ih K' hK
      simp only [Act.put, List.setIfInBounds_toArray, List.set_cons_zero, List.set_cons_succ] at ha
      subst ha
      obtain rfl : f6 = false := hun
      obtain rfl : f1 = true := by cases f1; exact Bool.noConfusion (show false = true from hd); rfl
      obtain ⟨a1, c1, rfl, r1⟩ := h1 rfl
      clear h1
      obtain rfl : f3 = true := by cases f3; exact Bool.noConfusion (show false = true from hd); rfl
      obtain rfl := h3 rfl
      clear h3
      obtain rfl : f5 = true := by cases f5; exact Bool.noConfusion (show false = true from hd); rfl
      obtain ⟨a2, rfl, r2⟩ := h5 rfl
      clear h5
      replace h6 := hide h6
      replace h10 := hide h10
      go_simp
      go_at_call 55
      refine (c55 s l o zs a1 zs.length c1 s2 l2 o2 ps a2 ps.length ps.length _ rfl (by omega) (own_cap0' r1) (own_rowI r1) rfl (Nat.le_refl _) (by omega) (own_rowI r2)).mono ?_
      rintro e w2 ⟨v, rfl, ho, hb2⟩
      rw [unhide HGD] at ho
      rw [unhide HGH, unhide HGB]
      dsimp only
      obtain ⟨a3, c3, rfl⟩ := live_form ho.2
      have hbb := below_then hb hb2
      try go_wp2_with fail
      cases f10
      case false =>
        refine hK.out _ _ hbb (fun hS => ?_)
        try simp only [List.setIfInBounds_toArray, List.set_cons_zero, List.set_cons_succ]
        refine tkW 7 (some 98) (v := ?_) ?_ ?_
        rotate_left
        · intro w hSw
          first | (go_simp; done) | (go_simp; with_reducible rfl) | with_reducible rfl | rfl
        try simp only [Act.put, List.setIfInBounds_toArray, List.set_cons_zero, List.set_cons_succ]
        refine tkW 8 (some 106) (v := ?_) ?_ ?_
        rotate_left
        · intro w hSw
          first | (go_simp; done) | (go_simp; with_reducible rfl) | with_reducible rfl | rfl
        try simp only [Act.put, List.setIfInBounds_toArray, List.set_cons_zero, List.set_cons_succ]
        refine tkW 9 (some 107) (v := ?_) ?_ ?_
        rotate_left
        · intro w hSw
          first | (go_simp; done) | (go_simp; with_reducible rfl) | with_reducible rfl | rfl
        try simp only [Act.put, List.setIfInBounds_toArray, List.set_cons_zero, List.set_cons_succ]
        refine ih _ _ _ ⟨true, true, true, true, false, t17, (.tuple #[gatV S L O (.slice a3 ZS.length c3), .bool bb]), (gatV s l o (.slice a1 zs.length c1)), (hedV s2 l2 o2), (.slice a2 ps.length ps.length), (.tuple #[gatV S L O (.slice a3 ZS.length c3), .bool bb]), (gatV S L O (.slice a3 ZS.length c3)), (.bool bb), rfl, (by simp only [Act.put, List.setIfInBounds_toArray, List.set_cons_zero, List.set_cons_succ]), hbb, (fun _ => ⟨a1, c1, rfl, r1.bel hb2⟩), (fun _ => rfl), (fun _ => ⟨a2, rfl, r2.bel hb2⟩), (fun _ => ⟨a3, c3, rfl, rfl, rfl, rfl, ho.mono hb.size⟩), (fun hh => absurd hh (by simp))⟩ ?_
        clear ih hd hb hbb hK h6 h10
        decide
      case true =>
        refine hK.out _ _ hbb (fun hS => ?_)
        try simp only [List.setIfInBounds_toArray, List.set_cons_zero, List.set_cons_succ]
        refine tkW 7 (some 98) (v := ?_) ?_ ?_
        rotate_left
        · intro w hSw
          first | (go_simp; done) | (go_simp; with_reducible rfl) | with_reducible rfl | rfl
        try simp only [Act.put, List.setIfInBounds_toArray, List.set_cons_zero, List.set_cons_succ]
        refine tkW 8 (some 106) (v := ?_) ?_ ?_
        rotate_left
        · intro w hSw
          first | (go_simp; done) | (go_simp; with_reducible rfl) | with_reducible rfl | rfl
        try simp only [Act.put, List.setIfInBounds_toArray, List.set_cons_zero, List.set_cons_succ]
        refine tkW 9 (some 107) (v := ?_) ?_ ?_
        rotate_left
        · intro w hSw
          first | (go_simp; done) | (go_simp; with_reducible rfl) | with_reducible rfl | rfl
        try simp only [Act.put, List.setIfInBounds_toArray, List.set_cons_zero, List.set_cons_succ]
        refine ih _ _ _ ⟨true, true, true, true, true, t17, (.tuple #[gatV S L O (.slice a3 ZS.length c3), .bool bb]), (gatV s l o (.slice a1 zs.length c1)), (hedV s2 l2 o2), (.slice a2 ps.length ps.length), (.tuple #[gatV S L O (.slice a3 ZS.length c3), .bool bb]), (gatV S L O (.slice a3 ZS.length c3)), (.bool bb), rfl, (by simp only [Act.put, List.setIfInBounds_toArray, List.set_cons_zero, List.set_cons_succ]), hbb, (fun _ => ⟨a1, c1, rfl, r1.bel hb2⟩), (fun _ => rfl), (fun _ => ⟨a2, rfl, r2.bel hb2⟩), (fun _ => ⟨a3, c3, rfl, rfl, rfl, rfl, ho.mono hb.size⟩), (fun hh => (by obtain ⟨g, e, r⟩ := (unhide h10 rfl); exact ⟨g, e, owns_below r hb2⟩))⟩ ?_
        clear ih hd hb hbb hK h6 h10
        decide
    refine StepsW.cons (i := 10) (o := { dst := some 17, op := _, type := _, pos := _, after := _, guard := _ }) rfl ?_ ?_
    · as_aux_lemma =>
      rintro listed a w' ⟨f1, f3, f5, f6, f10, t17, t98, t100, t102, t104, t105, t106, t107, rfl, ha, hb, h1, h3, h5, h6, h10⟩ hun hd ih K' hK
      simp only [Act.put, List.setIfInBounds_toArray, List.set_cons_zero, List.set_cons_succ] at ha
      subst ha
      obtain rfl : f10 = false := hun
      replace h1 := hide h1
      replace h3 := hide h3
      replace h5 := hide h5
      replace h6 := hide h6
      replace h10 := hide h10
      go_simp
      have hb2 : Below w'.heap.size w' (w'.alloc (.cells #[.int .i64 0, .int .i64 0, .int .i64 0, .slice none 0 0] 63)) := below_a _
      have hnew : ∃ g, (Value.pointer (some ⟨w'.heap.size, 0, none⟩)) = .pointer (some ⟨g, 0, none⟩) ∧ (w'.alloc (.cells #[.int .i64 0, .int .i64 0, .int .i64 0, .slice none 0 0] 63)).ownsRow w13.heap.size 63 4 (.slice (some ⟨g, 0, none⟩) 1 1) 1 [.int .i64 0, .int .i64 0, .int .i64 0, .slice none 0 0] := ⟨_, rfl, World.ownsRow_lit w' #[.int .i64 0, .int .i64 0, .int .i64 0, .slice none 0 0] 1 hb.size (by decide) rfl⟩
      generalize (Value.pointer (some ⟨w'.heap.size, 0, none⟩)) = tn at *
      generalize (w'.alloc (.cells #[.int .i64 0, .int .i64 0, .int .i64 0, .slice none 0 0] 63)) = w2 at *
      have hbb := below_then hb hb2
      refine hK.out _ _ hbb (fun hS => ?_)
      try simp only [List.setIfInBounds_toArray, List.set_cons_zero, List.set_cons_succ]
      refine ih _ _ _ ⟨f1, f3, f5, f6, true, tn, t98, t100, t102, t104, t105, t106, t107, rfl, (by simp only [Act.put, List.setIfInBounds_toArray, List.set_cons_zero, List.set_cons_succ]), hbb, (fun hh => (by obtain ⟨a, c, e, r⟩ := (unhide h1 hh); exact ⟨a, c, e, r.bel hb2⟩)), (fun hh => (unhide h3 hh)), (fun hh => (by obtain ⟨a, e, r⟩ := (unhide h5 hh); exact ⟨a, e, r.bel hb2⟩)), (fun hh => (by obtain ⟨a, c, e1, e2, e3, e4, r⟩ := (unhide h6 hh); exact ⟨a, c, e1, e2, e3, e4, r.bel hb2⟩)), (fun _ => hnew)⟩ ?_
      clear ih hd hb hbb hK h1 h3 h5 h6 h10
      cases f1 <;> cases f3 <;> cases f5 <;> cases f6 <;> decide
    exact StepsW.nil
  rintro listed a w' ⟨f1, f3, f5, f6, f10, t17, t98, t100, t102, t104, t105, t106, t107, rfl, ha, hb, h1, h3, h5, h6, h10⟩ hall
  simp only [Act.put, List.setIfInBounds_toArray, List.set_cons_zero, List.set_cons_succ] at ha
  subst ha
  obtain rfl : f1 = true := hall 1 (by simp)
  obtain rfl : f3 = true := hall 3 (by simp)
  obtain rfl : f5 = true := hall 5 (by simp)
  obtain rfl : f6 = true := hall 6 (by simp)
  obtain rfl : f10 = true := hall 10 (by simp)
  obtain ⟨a1, c1, rfl, r1⟩ := h1 rfl
  obtain rfl := h3 rfl
  obtain ⟨a2, rfl, r2⟩ := h5 rfl
  obtain ⟨a3, c3, rfl, rfl, rfl, rfl, r3⟩ := h6 rfl
  obtain ⟨g4, rfl, r4⟩ := h10 rfl
  clear hall h1 h3 h5 h6 h10
  clear r1 r2
  have hg4 : w13.heap.size ≤ g4 := (r4.lt g4 rfl).1
  have hL2 := live_add2 (x := (3, 1, .slice a3 ZS.length c3, ZS.length, ZS.map (Value.int .i64))) (y := (63, 4, .slice (some ⟨g4, 0, none⟩) 1 1, 1, [.int .i64 0, .int .i64 0, .int .i64 0, .slice none 0 0])) (unhide HL) hb (unhide HBB).size r3.2 r4 (show (3 : Nat) ≠ 63 by decide)
  have q4 := boxRow (hL2.1 (63, 4, .slice (some ⟨g4, 0, none⟩) 1 1, 1, [.int .i64 0, .int .i64 0, .int .i64 0, .slice none 0 0]) (by simp))
  have y0 := q4.cell 0 rfl
  have y0f := q4.frozen 0 rfl
  have y1 := q4.cell 1 rfl
  have y1f := q4.frozen 1 rfl
  have y2 := q4.cell 2 rfl
  have y2f := q4.frozen 2 rfl
  have y3 := q4.cell 3 rfl
  have y3f := q4.frozen 3 rfl
  refine oneW 11 (o := { dst := none, op := _, type := _, pos := _, after := _, guard := _ }) (fun K hK => ?_)
  clear r3 r4 q4 hHeld
  go_simp
  have hL3 := (live_put (A := [(3, 1, .slice a3 ZS.length c3, ZS.length, ZS.map (Value.int .i64))]) (C := [(63, 4, .slice (some ⟨gG, 0, none⟩) 1 1, 1, [.int .i64 S, .int .i64 L, .int .i64 O, .slice aG ZS.length cG]), (63, 4, .slice (some ⟨w3.heap.size, 0, none⟩) 1 1, 1, [.int .i64 s, .int .i64 l, .int .i64 o, .slice aX zs.length cX]), (3, 1, .slice aW ZS.length cW, ZS.length, ZS.map (Value.int .i64)), (63, 4, .slice (some ⟨gW, 0, none⟩) 1 1, 1, [.int .i64 S, .int .i64 L, .int .i64 O, .slice aW ZS.length cW])]) (live_put (A := [(3, 1, .slice a3 ZS.length c3, ZS.length, ZS.map (Value.int .i64))]) (C := [(63, 4, .slice (some ⟨gG, 0, none⟩) 1 1, 1, [.int .i64 S, .int .i64 L, .int .i64 O, .slice aG ZS.length cG]), (63, 4, .slice (some ⟨w3.heap.size, 0, none⟩) 1 1, 1, [.int .i64 s, .int .i64 l, .int .i64 o, .slice aX zs.length cX]), (3, 1, .slice aW ZS.length cW, ZS.length, ZS.map (Value.int .i64)), (63, 4, .slice (some ⟨gW, 0, none⟩) 1 1, 1, [.int .i64 S, .int .i64 L, .int .i64 O, .slice aW ZS.length cW])]) (live_put (A := [(3, 1, .slice a3 ZS.length c3, ZS.length, ZS.map (Value.int .i64))]) (C := [(63, 4, .slice (some ⟨gG, 0, none⟩) 1 1, 1, [.int .i64 S, .int .i64 L, .int .i64 O, .slice aG ZS.length cG]), (63, 4, .slice (some ⟨w3.heap.size, 0, none⟩) 1 1, 1, [.int .i64 s, .int .i64 l, .int .i64 o, .slice aX zs.length cX]), (3, 1, .slice aW ZS.length cW, ZS.length, ZS.map (Value.int .i64)), (63, 4, .slice (some ⟨gW, 0, none⟩) 1 1, 1, [.int .i64 S, .int .i64 L, .int .i64 O, .slice aW ZS.length cW])]) (live_put (A := [(3, 1, .slice a3 ZS.length c3, ZS.length, ZS.map (Value.int .i64))]) (C := [(63, 4, .slice (some ⟨gG, 0, none⟩) 1 1, 1, [.int .i64 S, .int .i64 L, .int .i64 O, .slice aG ZS.length cG]), (63, 4, .slice (some ⟨w3.heap.size, 0, none⟩) 1 1, 1, [.int .i64 s, .int .i64 l, .int .i64 o, .slice aX zs.length cX]), (3, 1, .slice aW ZS.length cW, ZS.length, ZS.map (Value.int .i64)), (63, 4, .slice (some ⟨gW, 0, none⟩) 1 1, 1, [.int .i64 S, .int .i64 L, .int .i64 O, .slice aW ZS.length cW])]) hL2 0 (.int .i64 S)) 1 (.int .i64 L)) 2 (.int .i64 O)) 3 (.slice a3 ZS.length c3))
  have hbS := (below_sc (p := ⟨g4, 3, none⟩) (v := .slice a3 ZS.length c3) (below_sc (p := ⟨g4, 2, none⟩) (v := .int .i64 O) (below_sc (p := ⟨g4, 1, none⟩) (v := .int .i64 L) (below_sc (p := ⟨g4, 0, none⟩) (v := .int .i64 S) hb (by dsimp only; omega)) (by dsimp only; omega)) (by dsimp only; omega)) (by dsimp only; omega))
  refine hK.out _ _ hbS (fun hS3 => ?_)
  clear hK K hS3
  try simp only [List.setIfInBounds_toArray, List.set_cons_zero, List.set_cons_succ]
  replace HL := hide (show Live _ _ [(3, 1, .slice a3 ZS.length c3, ZS.length, ZS.map (Value.int .i64)), (63, 4, .slice (some ⟨g4, 0, none⟩) 1 1, 1, [.int .i64 S, .int .i64 L, .int .i64 O, .slice a3 ZS.length c3]), (63, 4, .slice (some ⟨gG, 0, none⟩) 1 1, 1, [.int .i64 S, .int .i64 L, .int .i64 O, .slice aG ZS.length cG]), (63, 4, .slice (some ⟨w3.heap.size, 0, none⟩) 1 1, 1, [.int .i64 s, .int .i64 l, .int .i64 o, .slice aX zs.length cX]), (3, 1, .slice aW ZS.length cW, ZS.length, ZS.map (Value.int .i64)), (63, 4, .slice (some ⟨gW, 0, none⟩) 1 1, 1, [.int .i64 S, .int .i64 L, .int .i64 O, .slice aW ZS.length cW])] from hL3)
  (try clear y0 y1 y2 y3 y0f y1f y2f y3f)
  replace HBB := hide (below_tr (unhide HBB) hbS)
  replace HX := hide ((unhide HX).bel hbS)
  replace HH := hide ((unhide HH).bel hbS)
  replace HQW := hide ((unhide HQW).bel hbS)
  replace HQX := hide ((unhide HQX).bel hbS)
  replace HQG := hide ((unhide HQG).bel hbS)
  replace HHG := hide ((unhide HHG).bel hbS)
  clear hb hL2 hL3 hg4
  refine tkW 12 (some 18) (v := ?_) ?_ ?_
  rotate_left
  · intro w hSw
    first | (go_simp; done) | (go_simp; with_reducible rfl) | with_reducible rfl | rfl
  try simp only [Act.put, List.setIfInBounds_toArray, List.set_cons_zero, List.set_cons_succ]
  clear hbS
  refine doneW ?_
  obtain ⟨aV, ea⟩ : ∃ q, q = a3 := ⟨_, rfl⟩
  obtain ⟨cV, ec⟩ : ∃ q, q = c3 := ⟨_, rfl⟩
  obtain ⟨gV, eg⟩ : ∃ q, q = g4 := ⟨_, rfl⟩
  subst ea ec eg
  generalize ((((w').setCell ⟨gV, 0, none⟩ (.int .i64 S)).setCell ⟨gV, 1, none⟩ (.int .i64 L)).setCell ⟨gV, 2, none⟩ (.int .i64 O)).setCell ⟨gV, 3, none⟩ (.slice aV ZS.length cV) = w14 at *
  have HQV := hide (boxRow ((unhide HL).1 (63, 4, .slice (some ⟨gV, 0, none⟩) 1 1, 1, [.int .i64 S, .int .i64 L, .int .i64 O, .slice aV ZS.length cV]) (by simp)))
  have x0 := (unhide HX).cell 0 rfl
  have x1 := (unhide HX).cell 1 rfl
  have x2 := (unhide HX).cell 2 rfl
  have x3 := (unhide HX).cell 3 rfl
  have z0 := (unhide HH).cell 0 rfl
  have z1 := (unhide HH).cell 1 rfl
  have z2 := (unhide HH).cell 2 rfl
  have u0 := (unhide HQW).cell 0 rfl
  have u1 := (unhide HQW).cell 1 rfl
  have u2 := (unhide HQW).cell 2 rfl
  have u3 := (unhide HQW).cell 3 rfl
  have q0 := (unhide HQX).cell 0 rfl
  have q1 := (unhide HQX).cell 1 rfl
  have q2 := (unhide HQX).cell 2 rfl
  have q3 := (unhide HQX).cell 3 rfl
  have p0 := (unhide HQG).cell 0 rfl
  have p1 := (unhide HQG).cell 1 rfl
  have p2 := (unhide HQG).cell 2 rfl
  have p3 := (unhide HQG).cell 3 rfl
  have v0 := (unhide HQV).cell 0 rfl
  have v1 := (unhide HQV).cell 1 rfl
  have v2 := (unhide HQV).cell 2 rfl
  have v3 := (unhide HQV).cell 3 rfl
  go_wp2_with fail
  refine (sameG S L O ZS aV aW ZS.length cV cW _ rfl hzl (own_rowI (show Own _ w1.heap.size (.slice aV ZS.length cV) ZS from ⟨unhide HFS, (unhide HL).1 (3, 1, .slice aV ZS.length cV, ZS.length, ZS.map (Value.int .i64)) (by simp)⟩)) (own_rowI (show Own _ w1.heap.size (.slice aW ZS.length cW) ZS from ⟨unhide HFS, (unhide HL).1 (3, 1, .slice aW ZS.length cW, ZS.length, ZS.map (Value.int .i64)) (by simp)⟩))).mono ?_
  rintro e w15 ⟨rfl, hb⟩
  (try clear x0 x1 x2 x3 z0 z1 z2 u0 u1 u2 u3 q0 q1 q2 q3 p0 p1 p2 p3 v0 v1 v2 v3)
  replace HBB := hide (below_tr (unhide HBB) hb)
  replace HX := hide ((unhide HX).bel hb)
  replace HH := hide ((unhide HH).bel hb)
  replace HQW := hide ((unhide HQW).bel hb)
  replace HQX := hide ((unhide HQX).bel hb)
  replace HQG := hide ((unhide HQG).bel hb)
  replace HHG := hide ((unhide HHG).bel hb)
  replace HL := hide ((unhide HL).bel hb)
  replace HQV := hide ((unhide HQV).bel hb)
  clear hb
  have x0 := (unhide HX).cell 0 rfl
  have x1 := (unhide HX).cell 1 rfl
  have x2 := (unhide HX).cell 2 rfl
  have x3 := (unhide HX).cell 3 rfl
  have z0 := (unhide HH).cell 0 rfl
  have z1 := (unhide HH).cell 1 rfl
  have z2 := (unhide HH).cell 2 rfl
  have u0 := (unhide HQW).cell 0 rfl
  have u1 := (unhide HQW).cell 1 rfl
  have u2 := (unhide HQW).cell 2 rfl
  have u3 := (unhide HQW).cell 3 rfl
  have q0 := (unhide HQX).cell 0 rfl
  have q1 := (unhide HQX).cell 1 rfl
  have q2 := (unhide HQX).cell 2 rfl
  have q3 := (unhide HQX).cell 3 rfl
  have p0 := (unhide HQG).cell 0 rfl
  have p1 := (unhide HQG).cell 1 rfl
  have p2 := (unhide HQG).cell 2 rfl
  have p3 := (unhide HQG).cell 3 rfl
  have v0 := (unhide HQV).cell 0 rfl
  have v1 := (unhide HQV).cell 1 rfl
  have v2 := (unhide HQV).cell 2 rfl
  have v3 := (unhide HQV).cell 3 rfl
  go_wp2_with fail
  refine (heldG S L O ZS aG ZS.length cG _ rfl hzl (unhide HHG)).mono ?_
  rintro e w16 ⟨rfl, hb⟩
  (try clear x0 x1 x2 x3 z0 z1 z2 u0 u1 u2 u3 q0 q1 q2 q3 p0 p1 p2 p3 v0 v1 v2 v3)
  replace HBB := hide (below_tr (unhide HBB) hb)
  replace HX := hide ((unhide HX).bel hb)
  replace HH := hide ((unhide HH).bel hb)
  replace HQW := hide ((unhide HQW).bel hb)
  replace HQX := hide ((unhide HQX).bel hb)
  replace HQG := hide ((unhide HQG).bel hb)
  replace HHG := hide ((unhide HHG).bel hb)
  replace HL := hide ((unhide HL).bel hb)
  replace HQV := hide ((unhide HQV).bel hb)
  clear hb
  have x0 := (unhide HX).cell 0 rfl
  have x1 := (unhide HX).cell 1 rfl
  have x2 := (unhide HX).cell 2 rfl
  have x3 := (unhide HX).cell 3 rfl
  have z0 := (unhide HH).cell 0 rfl
  have z1 := (unhide HH).cell 1 rfl
  have z2 := (unhide HH).cell 2 rfl
  have u0 := (unhide HQW).cell 0 rfl
  have u1 := (unhide HQW).cell 1 rfl
  have u2 := (unhide HQW).cell 2 rfl
  have u3 := (unhide HQW).cell 3 rfl
  have q0 := (unhide HQX).cell 0 rfl
  have q1 := (unhide HQX).cell 1 rfl
  have q2 := (unhide HQX).cell 2 rfl
  have q3 := (unhide HQX).cell 3 rfl
  have p0 := (unhide HQG).cell 0 rfl
  have p1 := (unhide HQG).cell 1 rfl
  have p2 := (unhide HQG).cell 2 rfl
  have p3 := (unhide HQG).cell 3 rfl
  have v0 := (unhide HQV).cell 0 rfl
  have v1 := (unhide HQV).cell 1 rfl
  have v2 := (unhide HQV).cell 2 rfl
  have v3 := (unhide HQV).cell 3 rfl
  go_wp2_with fail
  go_ret
  exact ⟨rfl, below_tr (unhide HB) (unhide HBB)⟩
end Go.Proofs.Ytmlbphmbffkdnaa
