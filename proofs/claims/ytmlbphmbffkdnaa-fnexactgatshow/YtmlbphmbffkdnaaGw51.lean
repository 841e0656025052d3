/-
  Texts of the proof, what it needs of them: Lawsgw.
-/
import Derived.Test.YtmlbphmbffkdnaaGw47
import Derived.Test.YtmlbphmbffkdnaaGw49
import Derived.Test.YtmlbphmbffkdnaaGw50
namespace Go.Proofs.Ytmlbphmbffkdnaa
open Go.RowKit
set_option linter.unusedVariables false
set_option maxRecDepth 100000

theorem gatOk_len {s l o : Int} {zs : List Int} (h : gatOk s l o zs = true) : zs.length ≤ 8 := by
  unfold gatOk at h
  rw [Bool.and_eq_true] at h
  have := gat_len zs (-1) h.2 (by omega)
  omega
theorem showD_len {s l o : Int} {zs : List Int} {t who a c : Int} {d : Bool} {ps : List Int} (h : zs.length ≤ 1048576) : (showD s l o zs t who a c d ps).length ≤ 1048576 := by
  unfold showD
  split
  · rename_i hg
    split
    · rw [putI_len]; have := gatOk_len hg; omega
    · exact h
  · simp
theorem showD_fit {s l o : Int} {zs : List Int} {t who a c : Int} {d : Bool} {ps : List Int} (h : ∀ z ∈ zs, -9223372036854775808 ≤ z ∧ z ≤ 9223372036854775807) (ht : -9223372036854775808 ≤ t ∧ t ≤ 9223372036854775807) : ∀ z ∈ showD s l o zs t who a c d ps, -9223372036854775808 ≤ z ∧ z ≤ 9223372036854775807 := by
  unfold showD
  split
  · split
    · intro z hz
      rcases putI_mem.1 hz with rfl | hz
      · exact ht
      · exact h z hz
    · exact h
  · intro z hz; simp at hz

set_option maxHeartbeats 16000000 in
theorem law17 (s l o : Int) (zs : List Int) (ao : Option Addr) (n cap : Nat) (t who ra rc : Int) (rd : Bool) (ps : List Int) (bo : Option Addr) (m cap' : Nat) (w : World) (hn : zs.length = n) (hcap : n ≤ cap) (hmx : cap ≤ maxLen) (hr : Row w ao zs) (ht : -9223372036854775808 ≤ t ∧ t ≤ 9223372036854775807) (hf : FitR (ra, rc, rd))
    (hn2 : ps.length = m) (hcap2 : m ≤ cap') (hmx2 : cap' ≤ maxLen) (hr2 : Row w bo ps) :
    Calls Try.prog 17 #[gatV s l o (.slice ao n cap), .int .i64 t, .int .i64 who, rowV ra rc rd, .slice bo m cap'] w (Holds w) := by
  unfold maxLen at hmx hmx2
  subst hn
  subst hn2
  have HR := hide hr
  have HP := hide hr2
  have HFZ := hide hr.1
  have HFR := hide hf
  clear hf
  have HFP := hide hr2.1
  clear hr hr2
  have HB := hide (Below.refl w.heap.size w)
  replace HB := hide (below_al (o := .cells #[.int .i64 s, .int .i64 l, .int .i64 o, .slice ao zs.length cap] 102) (unhide HB))
  have HX := hide (box_new w [.int .i64 s, .int .i64 l, .int .i64 o, .slice ao zs.length cap] 102 (by simp [Value.oneCell']))
  (try simp only [World.size_alloc] at HX)
  replace HB := hide (below_al (o := .cells #[.int .i64 ra, .int .i64 rc, .bool rd] 110) (unhide HB))
  replace HX := hide ((unhide HX).bel (below_a (.cells #[.int .i64 ra, .int .i64 rc, .bool rd] 110)))
  have HH := hide (box_new (w.alloc (.cells #[.int .i64 s, .int .i64 l, .int .i64 o, .slice ao zs.length cap] 102)) [.int .i64 ra, .int .i64 rc, .bool rd] 110 (by simp [Value.oneCell']))
  (try simp only [World.size_alloc] at HH)
  have x0 := (unhide HX).cell 0 rfl
  have x1 := (unhide HX).cell 1 rfl
  have x2 := (unhide HX).cell 2 rfl
  have x3 := (unhide HX).cell 3 rfl
  have z0 := (unhide HH).cell 0 rfl
  have z1 := (unhide HH).cell 1 rfl
  have z2 := (unhide HH).cell 2 rfl
  by_cases hbig : (1048576 : Int) < (ps.length : Int)
  case pos =>
    go_enter Try.func17, Try.ntmps17
    go_wp2_with fail
    go_ret
    exact ⟨rfl, unhide HB⟩
  by_cases hb2 : zs.length ≤ 1048576
  case neg =>
    go_enter Try.func17, Try.ntmps17
    go_wp2_with fail
    refine (sgG s l o ao zs.length cap 1048576 _ (by omega) (by omega)).mono ?_
    rintro e w1 ⟨rfl, hb⟩
    rw [if_neg hb2]
    (try clear x0 x1 x2 x3 z0 z1 z2)
    replace HB := hide (below_tr (unhide HB) hb)
    replace HX := hide ((unhide HX).bel hb)
    replace HH := hide ((unhide HH).bel hb)
    clear hb
    have x0 := (unhide HX).cell 0 rfl
    have x1 := (unhide HX).cell 1 rfl
    have x2 := (unhide HX).cell 2 rfl
    have x3 := (unhide HX).cell 3 rfl
    have z0 := (unhide HH).cell 0 rfl
    have z1 := (unhide HH).cell 1 rfl
    have z2 := (unhide HH).cell 2 rfl
    go_wp2_with fail
    go_ret
    exact ⟨rfl, unhide HB⟩
  obtain ⟨lf, hlf⟩ : ∃ q : Nat, (1048576 : Int) - (zs.length : Int) = (q : Int) := ⟨1048576 - zs.length, by omega⟩
  have hl0 : ¬ ((lf : Int) < 0) := by omega
  obtain ⟨⟨S, L, O⟩, HGH⟩ : ∃ q, Hid (showH s l o zs = q) := ⟨_, rfl⟩
  obtain ⟨ZS, HGD⟩ : ∃ q, Hid (showD s l o zs t who ra rc rd ps = q) := ⟨_, rfl⟩
  obtain ⟨bb, HGB⟩ : ∃ q, Hid (showB s l o zs t who ra rc rd ps = q) := ⟨_, rfl⟩
  have hzl : ZS.length ≤ 1048576 := by rw [← unhide HGD]; exact showD_len hb2
  have HFS : Hid (∀ z ∈ ZS, -9223372036854775808 ≤ z ∧ z ≤ 9223372036854775807) := by unfold Hid; rw [← unhide HGD]; exact showD_fit (unhide HFZ) ht
  go_enter Try.func17, Try.ntmps17
  go_wp2_with fail
  refine (sgG s l o ao zs.length cap 1048576 _ (by omega) (by omega)).mono ?_
  rintro e w1 ⟨rfl, hb⟩
  rw [if_pos hb2]
  (try rw [hlf])
  (try clear x0 x1 x2 x3 z0 z1 z2)
  replace HB := hide (below_tr (unhide HB) hb)
  replace HX := hide ((unhide HX).bel hb)
  replace HH := hide ((unhide HH).bel hb)
  clear hb
  have x0 := (unhide HX).cell 0 rfl
  have x1 := (unhide HX).cell 1 rfl
  have x2 := (unhide HX).cell 2 rfl
  have x3 := (unhide HX).cell 3 rfl
  have z0 := (unhide HH).cell 0 rfl
  have z1 := (unhide HH).cell 1 rfl
  have z2 := (unhide HH).cell 2 rfl
  go_wp2_with fail
  have HX1 := hide (unhide HX)
  have HH1 := hide (unhide HH)
  have HBB := hide (Below.refl w1.heap.size w1)
  have HL : Hid (Live w1 w1.heap.size []) := live_nil _ _
  (try clear x0 x1 x2 x3 z0 z1 z2)
  (try clear x0 x1 x2 x3 z0 z1 z2)
  refine wp_region_W (fun w' => Below w1.heap.size w1 w') (by kernel_rfl) (below_drew w1) (fun hHeld => ?_)
  refine tkW 0 (some 32) (v := ?_) ?_ ?_
  rotate_left
  · intro w hSw
    have hT := (unhide HX).below hSw; have x0 := hT.cell 0 rfl; have x1 := hT.cell 1 rfl; have x2 := hT.cell 2 rfl; have x3 := hT.cell 3 rfl
    first | (go_simp; done) | (go_simp; with_reducible rfl) | with_reducible rfl | rfl
  try simp only [Act.put, List.setIfInBounds_toArray, List.set_cons_zero, List.set_cons_succ]
  refine tkW 2 (some 34) (v := ?_) ?_ ?_
  rotate_left
  · intro w hSw
    first | (go_simp; done) | (go_simp; with_reducible rfl) | with_reducible rfl | rfl
  try simp only [Act.put, List.setIfInBounds_toArray, List.set_cons_zero, List.set_cons_succ]
  refine tkW 3 (some 35) (v := ?_) ?_ ?_
  rotate_left
  · intro w hSw
    first | (go_simp; done) | (go_simp; with_reducible rfl) | with_reducible rfl | rfl
  try simp only [Act.put, List.setIfInBounds_toArray, List.set_cons_zero, List.set_cons_succ]
  refine tkW 4 (some 36) (v := ?_) ?_ ?_
  rotate_left
  · intro w hSw
    have hT := (unhide HH).below hSw; have z0 := hT.cell 0 rfl; have z1 := hT.cell 1 rfl; have z2 := hT.cell 2 rfl
    first | (go_simp; done) | (go_simp; with_reducible rfl) | with_reducible rfl | rfl
  try simp only [Act.put, List.setIfInBounds_toArray, List.set_cons_zero, List.set_cons_succ]
  refine tkW 6 (some 38) (v := ?_) ?_ ?_
  rotate_left
  · intro w hSw
    first | (go_simp; done) | (go_simp; with_reducible rfl) | with_reducible rfl | rfl
  try simp only [Act.put, List.setIfInBounds_toArray, List.set_cons_zero, List.set_cons_succ]
  have HD := below_drew w1
  generalize w1.drew = V0 at *
  refine WA.inv (fun aa listed a w' => ∃ (f1 f5 f7 f8 f12 : Bool) (t12 t31 t33 t37 t39 t40 t41 t42 : Value), listed = #[true, f1, true, true, true, f5, true, f7, f8, f8, f8, f8, f12, false, false] ∧ a = ((((((((aa).put (some 12) t12).put (some 31) t31).put (some 33) t33).put (some 37) t37).put (some 39) t39).put (some 40) t40).put (some 41) t41).put (some 42) t42 ∧ Below w1.heap.size w1 w' ∧ (f1 = true → ∃ a c, t33 = gatV s l o (.slice a zs.length c) ∧ Own w' w1.heap.size (.slice a zs.length c) zs) ∧ (f5 = true → t37 = rowV ra rc rd) ∧ (f7 = true → ∃ a, t39 = .slice a ps.length ps.length ∧ Own w' w1.heap.size (.slice a ps.length ps.length) ps) ∧ (f8 = true → ∃ a c, t40 = .tuple #[gatV S L O (.slice a ZS.length c), .bool bb] ∧ t31 = .tuple #[gatV S L O (.slice a ZS.length c), .bool bb] ∧ t41 = gatV S L O (.slice a ZS.length c) ∧ t42 = .bool bb ∧ Own w' w1.heap.size (.slice a ZS.length c) ZS) ∧ (f12 = true → ∃ g, t12 = .pointer (some ⟨g, 0, none⟩) ∧ w'.ownsRow w1.heap.size 63 4 (.slice (some ⟨g, 0, none⟩) 1 1) 1 [.int .i64 0, .int .i64 0, .int .i64 0, .slice none 0 0])) [1, 5, 7, 8, 12] ?_ ?_ ?_ ?_
  · refine ⟨false, false, false, false, false, undef, undef, undef, undef, undef, undef, undef, undef, rfl, ?_, HD, (fun h => absurd h (by simp)), (fun h => absurd h (by simp)), (fun h => absurd h (by simp)), (fun h => absurd h (by simp)), (fun h => absurd h (by simp))⟩
    simp only [Act.put, List.setIfInBounds_toArray, List.set_cons_zero, List.set_cons_succ]
  · rintro listed a w' ⟨f1, f5, f7, f8, f12, t12, t31, t33, t37, t39, t40, t41, t42, rfl, ha, hb, h1, h5, h7, h8, h12⟩
    refine ⟨rfl, ?_⟩
    clear ha hb h1 h5 h7 h8 h12
    cases f1 <;> cases f5 <;> cases f7 <;> cases f8 <;> cases f12 <;> kernel_rfl
  · skip
    refine StepsW.cons (i := 1) (o := { dst := some 33, op := _, type := _, pos := _, after := _, guard := _ }) rfl ?_ ?_
    · as_aux_lemma =>
      rintro listed a w' ⟨f1, f5, f7, f8, f12, t12, t31, t33, t37, t39, t40, t41, t42, rfl, ha, hb, h1, h5, h7, h8, h12⟩ hun hd ih K' hK
      simp only [Act.put, List.setIfInBounds_toArray, List.set_cons_zero, List.set_cons_succ] at ha
      subst ha
      obtain rfl : f1 = false := hun
      replace h1 := hide h1
      replace h5 := hide h5
      replace h7 := hide h7
      replace h8 := hide h8
      replace h12 := hide h12
      go_simp
      go_at_call 88
      refine (c88 s l o zs ao zs.length cap _ rfl (by omega) ((unhide HR).bel (below_tr (unhide HB) (below_tr (unhide HBB) hb)))).mono ?_
      rintro e w2 ⟨v, rfl, ho, hb2⟩
      obtain ⟨a1, c1, rfl⟩ := live_form ho.2
      have hbb := below_then hb hb2
      try go_wp2_with fail
      refine hK.out _ _ hbb (fun hS => ?_)
      try simp only [List.setIfInBounds_toArray, List.set_cons_zero, List.set_cons_succ]
      refine ih _ _ _ ⟨true, f5, f7, f8, f12, t12, t31, (gatV s l o (.slice a1 zs.length c1)), t37, t39, t40, t41, t42, rfl, (by simp only [Act.put, List.setIfInBounds_toArray, List.set_cons_zero, List.set_cons_succ]), hbb, (fun _ => ⟨a1, c1, rfl, ho.mono hb.size⟩), (fun hh => (unhide h5 hh)), (fun hh => (by obtain ⟨a, e, r⟩ := (unhide h7 hh); exact ⟨a, e, r.bel hb2⟩)), (fun hh => (by obtain ⟨a, c, e1, e2, e3, e4, r⟩ := (unhide h8 hh); exact ⟨a, c, e1, e2, e3, e4, r.bel hb2⟩)), (fun hh => (by obtain ⟨g, e, r⟩ := (unhide h12 hh); exact ⟨g, e, owns_below r hb2⟩))⟩ ?_
      clear ih hd hb hbb hK h1 h5 h7 h8 h12
      cases f5 <;> cases f7 <;> cases f8 <;> cases f12 <;> decide
    refine StepsW.cons (i := 5) (o := { dst := some 37, op := _, type := _, pos := _, after := _, guard := _ }) rfl ?_ ?_
    · as_aux_lemma =>
      rintro listed a w' ⟨f1, f5, f7, f8, f12, t12, t31, t33, t37, t39, t40, t41, t42, rfl, ha, hb, h1, h5, h7, h8, h12⟩ hun hd ih K' hK
      simp only [Act.put, List.setIfInBounds_toArray, List.set_cons_zero, List.set_cons_succ] at ha
      subst ha
      obtain rfl : f5 = false := hun
      replace h1 := hide h1
      replace h5 := hide h5
      replace h7 := hide h7
      replace h8 := hide h8
      replace h12 := hide h12
      go_simp
      go_at_call 96
      refine (c96 ra rc rd _).mono ?_
      rintro e w2 ⟨rfl, hb2⟩
      have hbb := below_then hb hb2
      try go_wp2_with fail
      refine hK.out _ _ hbb (fun hS => ?_)
      try simp only [List.setIfInBounds_toArray, List.set_cons_zero, List.set_cons_succ]
      refine ih _ _ _ ⟨f1, true, f7, f8, f12, t12, t31, t33, (rowV ra rc rd), t39, t40, t41, t42, rfl, (by simp only [Act.put, List.setIfInBounds_toArray, List.set_cons_zero, List.set_cons_succ]), hbb, (fun hh => (by obtain ⟨a, c, e, r⟩ := (unhide h1 hh); exact ⟨a, c, e, r.bel hb2⟩)), (fun _ => rfl), (fun hh => (by obtain ⟨a, e, r⟩ := (unhide h7 hh); exact ⟨a, e, r.bel hb2⟩)), (fun hh => (by obtain ⟨a, c, e1, e2, e3, e4, r⟩ := (unhide h8 hh); exact ⟨a, c, e1, e2, e3, e4, r.bel hb2⟩)), (fun hh => (by obtain ⟨g, e, r⟩ := (unhide h12 hh); exact ⟨g, e, owns_below r hb2⟩))⟩ ?_
      clear ih hd hb hbb hK h1 h5 h7 h8 h12
      cases f1 <;> cases f7 <;> cases f8 <;> cases f12 <;> decide
    refine StepsW.cons (i := 7) (o := { dst := some 39, op := _, type := _, pos := _, after := _, guard := _ }) rfl ?_ ?_
    · as_aux_lemma =>
      rintro listed a w' ⟨f1, f5, f7, f8, f12, t12, t31, t33, t37, t39, t40, t41, t42, rfl, ha, hb, h1, h5, h7, h8, h12⟩ hun hd ih K' hK
      simp only [Act.put, List.setIfInBounds_toArray, List.set_cons_zero, List.set_cons_succ] at ha
      subst ha
      obtain rfl : f7 = false := hun
      replace h1 := hide h1
      replace h5 := hide h5
      replace h7 := hide h7
      replace h8 := hide h8
      replace h12 := hide h12
      go_simp
      go_at_call 89
      refine (c89 ps bo ps.length cap' _ rfl (by omega) ((unhide HP).bel (below_tr (unhide HB) (below_tr (unhide HBB) hb)))).mono ?_
      rintro e w2 ⟨rfl, ho, hb2⟩
      generalize (some (⟨w'.heap.size, 0, none⟩ : Addr)) = a2 at *
      have hbb := below_then hb hb2
      try go_wp2_with fail
      refine hK.out _ _ hbb (fun hS => ?_)
      try simp only [List.setIfInBounds_toArray, List.set_cons_zero, List.set_cons_succ]
      refine ih _ _ _ ⟨f1, f5, true, f8, f12, t12, t31, t33, t37, (.slice a2 ps.length ps.length), t40, t41, t42, rfl, (by simp only [Act.put, List.setIfInBounds_toArray, List.set_cons_zero, List.set_cons_succ]), hbb, (fun hh => (by obtain ⟨a, c, e, r⟩ := (unhide h1 hh); exact ⟨a, c, e, r.bel hb2⟩)), (fun hh => (unhide h5 hh)), (fun _ => ⟨a2, rfl, ho.mono hb.size⟩), (fun hh => (by obtain ⟨a, c, e1, e2, e3, e4, r⟩ := (unhide h8 hh); exact ⟨a, c, e1, e2, e3, e4, r.bel hb2⟩)), (fun hh => (by obtain ⟨g, e, r⟩ := (unhide h12 hh); exact ⟨g, e, owns_below r hb2⟩))⟩ ?_
      clear ih hd hb hbb hK h1 h5 h7 h8 h12
      cases f1 <;> cases f5 <;> cases f8 <;> cases f12 <;> decide
    refine StepsW.cons (i := 8) (o := { dst := some 40, op := _, type := _, pos := _, after := _, guard := _ }) rfl ?_ ?_
    · as_aux_lemma =>
      rintro listed a w' ⟨f1, f5, f7, f8, f12, t12, t31, t33, t37, t39, t40, t41, t42, rfl, ha, hb, h1, h5, h7, h8, h12⟩ hun hd ih K' hK
      simp only [Act.put, List.setIfInBounds_toArray, List.set_cons_zero, List.set_cons_succ] at ha
      subst ha
      obtain rfl : f8 = false := hun
      obtain rfl : f1 = true := by cases f1; exact Bool.noConfusion (show false = true from hd); rfl
      obtain ⟨a1, c1, rfl, r1⟩ := h1 rfl
      clear h1
      obtain rfl : f5 = true := by cases f5; exact Bool.noConfusion (show false = true from hd); rfl
      obtain rfl := h5 rfl
      clear h5
      obtain rfl : f7 = true := by cases f7; exact Bool.noConfusion (show false = true from hd); rfl
      obtain ⟨a2, rfl, r2⟩ := h7 rfl
      clear h7
      replace h8 := hide h8
      replace h12 := hide h12
      go_simp
      go_at_call 95
      refine (c95 s l o zs a1 zs.length c1 t who ra rc rd ps a2 ps.length ps.length _ rfl (by omega) (own_cap0' r1) (own_rowI r1) ht (unhide HFR) rfl (Nat.le_refl _) (by omega) (own_rowI r2)).mono ?_
      rintro e w2 ⟨v, rfl, ho, hb2⟩
      rw [unhide HGD] at ho
      rw [unhide HGH, unhide HGB]
      dsimp only
      obtain ⟨a3, c3, rfl⟩ := live_form ho.2
      have hbb := below_then hb hb2
      try go_wp2_with fail
      cases f12
      case false =>
        refine hK.out _ _ hbb (fun hS => ?_)
        try simp only [List.setIfInBounds_toArray, List.set_cons_zero, List.set_cons_succ]
        refine tkW 9 (some 31) (v := ?_) ?_ ?_
        rotate_left
        · intro w hSw
          first | (go_simp; done) | (go_simp; with_reducible rfl) | with_reducible rfl | rfl
        try simp only [Act.put, List.setIfInBounds_toArray, List.set_cons_zero, List.set_cons_succ]
        refine tkW 10 (some 41) (v := ?_) ?_ ?_
        rotate_left
        · intro w hSw
          first | (go_simp; done) | (go_simp; with_reducible rfl) | with_reducible rfl | rfl
        try simp only [Act.put, List.setIfInBounds_toArray, List.set_cons_zero, List.set_cons_succ]
        refine tkW 11 (some 42) (v := ?_) ?_ ?_
        rotate_left
        · intro w hSw
          first | (go_simp; done) | (go_simp; with_reducible rfl) | with_reducible rfl | rfl
        try simp only [Act.put, List.setIfInBounds_toArray, List.set_cons_zero, List.set_cons_succ]
        refine ih _ _ _ ⟨true, true, true, true, false, t12, (.tuple #[gatV S L O (.slice a3 ZS.length c3), .bool bb]), (gatV s l o (.slice a1 zs.length c1)), (rowV ra rc rd), (.slice a2 ps.length ps.length), (.tuple #[gatV S L O (.slice a3 ZS.length c3), .bool bb]), (gatV S L O (.slice a3 ZS.length c3)), (.bool bb), rfl, (by simp only [Act.put, List.setIfInBounds_toArray, List.set_cons_zero, List.set_cons_succ]), hbb, (fun _ => ⟨a1, c1, rfl, r1.bel hb2⟩), (fun _ => rfl), (fun _ => ⟨a2, rfl, r2.bel hb2⟩), (fun _ => ⟨a3, c3, rfl, rfl, rfl, rfl, ho.mono hb.size⟩), (fun hh => absurd hh (by simp))⟩ ?_
        clear ih hd hb hbb hK h8 h12
        decide
      case true =>
        refine hK.out _ _ hbb (fun hS => ?_)
        try simp only [List.setIfInBounds_toArray, List.set_cons_zero, List.set_cons_succ]
        refine tkW 9 (some 31) (v := ?_) ?_ ?_
        rotate_left
        · intro w hSw
          first | (go_simp; done) | (go_simp; with_reducible rfl) | with_reducible rfl | rfl
        try simp only [Act.put, List.setIfInBounds_toArray, List.set_cons_zero, List.set_cons_succ]
        refine tkW 10 (some 41) (v := ?_) ?_ ?_
        rotate_left
        · intro w hSw
          first | (go_simp; done) | (go_simp; with_reducible rfl) | with_reducible rfl | rfl
        try simp only [Act.put, List.setIfInBounds_toArray, List.set_cons_zero, List.set_cons_succ]
        refine tkW 11 (some 42) (v := ?_) ?_ ?_
        rotate_left
        · intro w hSw
          first | (go_simp; done) | (go_simp; with_reducible rfl) | with_reducible rfl | rfl
        try simp only [Act.put, List.setIfInBounds_toArray, List.set_cons_zero, List.set_cons_succ]
        refine ih _ _ _ ⟨true, true, true, true, true, t12, (.tuple #[gatV S L O (.slice a3 ZS.length c3), .bool bb]), (gatV s l o (.slice a1 zs.length c1)), (rowV ra rc rd), (.slice a2 ps.length ps.length), (.tuple #[gatV S L O (.slice a3 ZS.length c3), .bool bb]), (gatV S L O (.slice a3 ZS.length c3)), (.bool bb), rfl, (by simp only [Act.put, List.setIfInBounds_toArray, List.set_cons_zero, List.set_cons_succ]), hbb, (fun _ => ⟨a1, c1, rfl, r1.bel hb2⟩), (fun _ => rfl), (fun _ => ⟨a2, rfl, r2.bel hb2⟩), (fun _ => ⟨a3, c3, rfl, rfl, rfl, rfl, ho.mono hb.size⟩), (fun hh => (by obtain ⟨g, e, r⟩ := (unhide h12 rfl); exact ⟨g, e, owns_below r hb2⟩))⟩ ?_
        clear ih hd hb hbb hK h8 h12
        decide
    refine StepsW.cons (i := 12) (o := { dst := some 12, op := _, type := _, pos := _, after := _, guard := _ }) rfl ?_ ?_
    · as_aux_lemma =>
      rintro listed a w' ⟨f1, f5, f7, f8, f12, t12, t31, t33, t37, t39, t40, t41, t42, rfl, ha, hb, h1, h5, h7, h8, h12⟩ hun hd ih K' hK
      simp only [Act.put, List.setIfInBounds_toArray, List.set_cons_zero, List.set_cons_succ] at ha
      subst ha
      obtain rfl : f12 = false := hun
      replace h1 := hide h1
      replace h5 := hide h5
      replace h7 := hide h7
      replace h8 := hide h8
      replace h12 := hide h12
      go_simp
      have hb2 : Below w'.heap.size w' (w'.alloc (.cells #[.int .i64 0, .int .i64 0, .int .i64 0, .slice none 0 0] 63)) := below_a _
      have hnew : ∃ g, (Value.pointer (some ⟨w'.heap.size, 0, none⟩)) = .pointer (some ⟨g, 0, none⟩) ∧ (w'.alloc (.cells #[.int .i64 0, .int .i64 0, .int .i64 0, .slice none 0 0] 63)).ownsRow w1.heap.size 63 4 (.slice (some ⟨g, 0, none⟩) 1 1) 1 [.int .i64 0, .int .i64 0, .int .i64 0, .slice none 0 0] := ⟨_, rfl, World.ownsRow_lit w' #[.int .i64 0, .int .i64 0, .int .i64 0, .slice none 0 0] 1 hb.size (by decide) rfl⟩
      generalize (Value.pointer (some ⟨w'.heap.size, 0, none⟩)) = tn at *
      generalize (w'.alloc (.cells #[.int .i64 0, .int .i64 0, .int .i64 0, .slice none 0 0] 63)) = w2 at *
      have hbb := below_then hb hb2
      refine hK.out _ _ hbb (fun hS => ?_)
      try simp only [List.setIfInBounds_toArray, List.set_cons_zero, List.set_cons_succ]
      refine ih _ _ _ ⟨f1, f5, f7, f8, true, tn, t31, t33, t37, t39, t40, t41, t42, rfl, (by simp only [Act.put, List.setIfInBounds_toArray, List.set_cons_zero, List.set_cons_succ]), hbb, (fun hh => (by obtain ⟨a, c, e, r⟩ := (unhide h1 hh); exact ⟨a, c, e, r.bel hb2⟩)), (fun hh => (unhide h5 hh)), (fun hh => (by obtain ⟨a, e, r⟩ := (unhide h7 hh); exact ⟨a, e, r.bel hb2⟩)), (fun hh => (by obtain ⟨a, c, e1, e2, e3, e4, r⟩ := (unhide h8 hh); exact ⟨a, c, e1, e2, e3, e4, r.bel hb2⟩)), (fun _ => hnew)⟩ ?_
      clear ih hd hb hbb hK h1 h5 h7 h8 h12
      cases f1 <;> cases f5 <;> cases f7 <;> cases f8 <;> decide
    exact StepsW.nil
  rintro listed a w' ⟨f1, f5, f7, f8, f12, t12, t31, t33, t37, t39, t40, t41, t42, rfl, ha, hb, h1, h5, h7, h8, h12⟩ hall
  simp only [Act.put, List.setIfInBounds_toArray, List.set_cons_zero, List.set_cons_succ] at ha
  subst ha
  obtain rfl : f1 = true := hall 1 (by simp)
  obtain rfl : f5 = true := hall 5 (by simp)
  obtain rfl : f7 = true := hall 7 (by simp)
  obtain rfl : f8 = true := hall 8 (by simp)
  obtain rfl : f12 = true := hall 12 (by simp)
  obtain ⟨a1, c1, rfl, r1⟩ := h1 rfl
  obtain rfl := h5 rfl
  obtain ⟨a2, rfl, r2⟩ := h7 rfl
  obtain ⟨a3, c3, rfl, rfl, rfl, rfl, r3⟩ := h8 rfl
  obtain ⟨g4, rfl, r4⟩ := h12 rfl
  clear hall h1 h5 h7 h8 h12
  clear r1 r2
  have hg4 : w1.heap.size ≤ g4 := (r4.lt g4 rfl).1
  have hL2 := live_add2 (x := (3, 1, .slice a3 ZS.length c3, ZS.length, ZS.map (Value.int .i64))) (y := (63, 4, .slice (some ⟨g4, 0, none⟩) 1 1, 1, [.int .i64 0, .int .i64 0, .int .i64 0, .slice none 0 0])) (unhide HL) hb (unhide HBB).size r3.2 r4 (show (3 : Nat) ≠ 63 by decide)
  have q4 := boxRow (hL2.1 (63, 4, .slice (some ⟨g4, 0, none⟩) 1 1, 1, [.int .i64 0, .int .i64 0, .int .i64 0, .slice none 0 0]) (by simp))
  have y0 := q4.cell 0 rfl
  have y0f := q4.frozen 0 rfl
  have y1 := q4.cell 1 rfl
  have y1f := q4.frozen 1 rfl
  have y2 := q4.cell 2 rfl
  have y2f := q4.frozen 2 rfl
  have y3 := q4.cell 3 rfl
  have y3f := q4.frozen 3 rfl
  refine oneW 13 (o := { dst := none, op := _, type := _, pos := _, after := _, guard := _ }) (fun K hK => ?_)
  clear r3 r4 q4 hHeld
  go_simp
  have hL3 := (live_put (A := [(3, 1, .slice a3 ZS.length c3, ZS.length, ZS.map (Value.int .i64))]) (C := []) (live_put (A := [(3, 1, .slice a3 ZS.length c3, ZS.length, ZS.map (Value.int .i64))]) (C := []) (live_put (A := [(3, 1, .slice a3 ZS.length c3, ZS.length, ZS.map (Value.int .i64))]) (C := []) (live_put (A := [(3, 1, .slice a3 ZS.length c3, ZS.length, ZS.map (Value.int .i64))]) (C := []) hL2 0 (.int .i64 S)) 1 (.int .i64 L)) 2 (.int .i64 O)) 3 (.slice a3 ZS.length c3))
  have hbS := (below_sc (p := ⟨g4, 3, none⟩) (v := .slice a3 ZS.length c3) (below_sc (p := ⟨g4, 2, none⟩) (v := .int .i64 O) (below_sc (p := ⟨g4, 1, none⟩) (v := .int .i64 L) (below_sc (p := ⟨g4, 0, none⟩) (v := .int .i64 S) hb (by dsimp only; omega)) (by dsimp only; omega)) (by dsimp only; omega)) (by dsimp only; omega))
  refine hK.out _ _ hbS (fun hS3 => ?_)
  clear hK K hS3
  try simp only [List.setIfInBounds_toArray, List.set_cons_zero, List.set_cons_succ]
  replace HL := hide (show Live _ _ [(3, 1, .slice a3 ZS.length c3, ZS.length, ZS.map (Value.int .i64)), (63, 4, .slice (some ⟨g4, 0, none⟩) 1 1, 1, [.int .i64 S, .int .i64 L, .int .i64 O, .slice a3 ZS.length c3])] from hL3)
  (try clear y0 y1 y2 y3 y0f y1f y2f y3f)
  replace HBB := hide (below_tr (unhide HBB) hbS)
  replace HX := hide ((unhide HX).bel hbS)
  replace HH := hide ((unhide HH).bel hbS)
  clear hb hL2 hL3 hg4
  refine tkW 14 (some 13) (v := ?_) ?_ ?_
  rotate_left
  · intro w hSw
    first | (go_simp; done) | (go_simp; with_reducible rfl) | with_reducible rfl | rfl
  try simp only [Act.put, List.setIfInBounds_toArray, List.set_cons_zero, List.set_cons_succ]
  clear hbS
  refine doneW ?_
  obtain ⟨aW, ea⟩ : ∃ q, q = a3 := ⟨_, rfl⟩
  obtain ⟨cW, ec⟩ : ∃ q, q = c3 := ⟨_, rfl⟩
  obtain ⟨gW, eg⟩ : ∃ q, q = g4 := ⟨_, rfl⟩
  subst ea ec eg
  generalize ((((w').setCell ⟨gW, 0, none⟩ (.int .i64 S)).setCell ⟨gW, 1, none⟩ (.int .i64 L)).setCell ⟨gW, 2, none⟩ (.int .i64 O)).setCell ⟨gW, 3, none⟩ (.slice aW ZS.length cW) = w2 at *
  (try clear x0 x1 x2 x3 z0 z1 z2)
  have HQW := hide (boxRow ((unhide HL).1 (63, 4, .slice (some ⟨gW, 0, none⟩) 1 1, 1, [.int .i64 S, .int .i64 L, .int .i64 O, .slice aW ZS.length cW]) (by simp)))
  have x0 := (unhide HX).cell 0 rfl
  have x1 := (unhide HX).cell 1 rfl
  have x2 := (unhide HX).cell 2 rfl
  have x3 := (unhide HX).cell 3 rfl
  have z0 := (unhide HH).cell 0 rfl
  have z1 := (unhide HH).cell 1 rfl
  have z2 := (unhide HH).cell 2 rfl
  have u0 := (unhide HQW).cell 0 rfl
  have u1 := (unhide HQW).cell 1 rfl
  have u2 := (unhide HQW).cell 2 rfl
  have u3 := (unhide HQW).cell 3 rfl
  go_wp2_with fail
  refine (c88 s l o zs ao zs.length cap _ rfl (by omega) ((unhide HR).bel (below_tr (unhide HB) (unhide HBB)))).mono ?_
  rintro e w3 ⟨v, rfl, ho, hb⟩
  obtain ⟨aX, cX, rfl⟩ := live_form ho.2
  have hl2 := live_new (A := []) (C := [(3, 1, .slice aW ZS.length cW, ZS.length, ZS.map (Value.int .i64)), (63, 4, .slice (some ⟨gW, 0, none⟩) 1 1, 1, [.int .i64 S, .int .i64 L, .int .i64 O, .slice aW ZS.length cW])]) (T := 3) (n := 1) (v := .slice aX zs.length cX) (m := zs.length) (cs := zs.map (Value.int .i64)) (unhide HL) hb (owns_mono ho.2 (unhide HBB).size) (fun k hk => (ho.2.lt k hk).1)
  (try clear x0 x1 x2 x3 z0 z1 z2 u0 u1 u2 u3)
  replace HBB := hide (below_tr (unhide HBB) hb)
  replace HX := hide ((unhide HX).bel hb)
  replace HH := hide ((unhide HH).bel hb)
  replace HQW := hide ((unhide HQW).bel hb)
  clear HL
  have HL := hide (hl2)
  clear hb ho hl2
  have x0 := (unhide HX).cell 0 rfl
  have x1 := (unhide HX).cell 1 rfl
  have x2 := (unhide HX).cell 2 rfl
  have x3 := (unhide HX).cell 3 rfl
  have z0 := (unhide HH).cell 0 rfl
  have z1 := (unhide HH).cell 1 rfl
  have z2 := (unhide HH).cell 2 rfl
  have u0 := (unhide HQW).cell 0 rfl
  have u1 := (unhide HQW).cell 1 rfl
  have u2 := (unhide HQW).cell 2 rfl
  have u3 := (unhide HQW).cell 3 rfl
  (try clear x0 x1 x2 x3 z0 z1 z2 u0 u1 u2 u3)
  have hl2 := live_new (A := []) (C := [(3, 1, .slice aX zs.length cX, zs.length, zs.map (Value.int .i64)), (3, 1, .slice aW ZS.length cW, ZS.length, ZS.map (Value.int .i64)), (63, 4, .slice (some ⟨gW, 0, none⟩) 1 1, 1, [.int .i64 S, .int .i64 L, .int .i64 O, .slice aW ZS.length cW])]) (T := 63) (n := 4) (v := .slice (some ⟨w3.heap.size, 0, none⟩) 1 1) (m := 1) (cs := [.int .i64 s, .int .i64 l, .int .i64 o, .slice aX zs.length cX]) (unhide HL) (below_a (.cells #[.int .i64 s, .int .i64 l, .int .i64 o, .slice aX zs.length cX] 63)) (World.ownsRow_lit w3 #[.int .i64 s, .int .i64 l, .int .i64 o, .slice aX zs.length cX] 1 (unhide HBB).size (by decide) rfl) (fun k hk => by simp [Value.ownBlock] at hk; omega)
  (try clear x0 x1 x2 x3 z0 z1 z2 u0 u1 u2 u3)
  replace HBB := hide (below_al (o := .cells #[.int .i64 s, .int .i64 l, .int .i64 o, .slice aX zs.length cX] 63) (unhide HBB))
  replace HX := hide ((unhide HX).bel (below_a (.cells #[.int .i64 s, .int .i64 l, .int .i64 o, .slice aX zs.length cX] 63)))
  replace HH := hide ((unhide HH).bel (below_a (.cells #[.int .i64 s, .int .i64 l, .int .i64 o, .slice aX zs.length cX] 63)))
  replace HQW := hide ((unhide HQW).bel (below_a (.cells #[.int .i64 s, .int .i64 l, .int .i64 o, .slice aX zs.length cX] 63)))
  have HQX := hide (box_new w3 [.int .i64 s, .int .i64 l, .int .i64 o, .slice aX zs.length cX] 63 (by simp [Value.oneCell']))
  have x0 := (unhide HX).cell 0 rfl
  have x1 := (unhide HX).cell 1 rfl
  have x2 := (unhide HX).cell 2 rfl
  have x3 := (unhide HX).cell 3 rfl
  have z0 := (unhide HH).cell 0 rfl
  have z1 := (unhide HH).cell 1 rfl
  have z2 := (unhide HH).cell 2 rfl
  have u0 := (unhide HQW).cell 0 rfl
  have u1 := (unhide HQW).cell 1 rfl
  have u2 := (unhide HQW).cell 2 rfl
  have u3 := (unhide HQW).cell 3 rfl
  have q0 := (unhide HQX).cell 0 rfl
  have q1 := (unhide HQX).cell 1 rfl
  have q2 := (unhide HQX).cell 2 rfl
  have q3 := (unhide HQX).cell 3 rfl
  (try clear x0 x1 x2 x3 z0 z1 z2 u0 u1 u2 u3 q0 q1 q2 q3)
  replace HL := hide hl2
  clear hl2
  have x0 := (unhide HX).cell 0 rfl
  have x1 := (unhide HX).cell 1 rfl
  have x2 := (unhide HX).cell 2 rfl
  have x3 := (unhide HX).cell 3 rfl
  have z0 := (unhide HH).cell 0 rfl
  have z1 := (unhide HH).cell 1 rfl
  have z2 := (unhide HH).cell 2 rfl
  have u0 := (unhide HQW).cell 0 rfl
  have u1 := (unhide HQW).cell 1 rfl
  have u2 := (unhide HQW).cell 2 rfl
  have u3 := (unhide HQW).cell 3 rfl
  have q0 := (unhide HQX).cell 0 rfl
  have q1 := (unhide HQX).cell 1 rfl
  have q2 := (unhide HQX).cell 2 rfl
  have q3 := (unhide HQX).cell 3 rfl
  go_wp2_with fail
  refine (toI2 ps bo ps.length cap' _ rfl (by omega) ((unhide HP).bel (below_tr (unhide HB) (unhide HBB)))).mono ?_
  rintro e w4 ⟨aP, rfl, ho, hb⟩
  have hl2 := live_new (A := []) (C := [(63, 4, .slice (some ⟨w3.heap.size, 0, none⟩) 1 1, 1, [.int .i64 s, .int .i64 l, .int .i64 o, .slice aX zs.length cX]), (3, 1, .slice aX zs.length cX, zs.length, zs.map (Value.int .i64)), (3, 1, .slice aW ZS.length cW, ZS.length, ZS.map (Value.int .i64)), (63, 4, .slice (some ⟨gW, 0, none⟩) 1 1, 1, [.int .i64 S, .int .i64 L, .int .i64 O, .slice aW ZS.length cW])]) (T := 3) (n := 1) (v := .slice aP ps.length ps.length) (m := ps.length) (cs := ps.map (Value.int .i64)) (unhide HL) hb (owns_mono ho.2 (unhide HBB).size) (fun k hk => (ho.2.lt k hk).1)
  (try clear x0 x1 x2 x3 z0 z1 z2 u0 u1 u2 u3 q0 q1 q2 q3)
  replace HBB := hide (below_tr (unhide HBB) hb)
  replace HX := hide ((unhide HX).bel hb)
  replace HH := hide ((unhide HH).bel hb)
  replace HQW := hide ((unhide HQW).bel hb)
  replace HQX := hide ((unhide HQX).bel hb)
  clear HL
  have HL := hide (hl2)
  clear hb ho hl2
  have x0 := (unhide HX).cell 0 rfl
  have x1 := (unhide HX).cell 1 rfl
  have x2 := (unhide HX).cell 2 rfl
  have x3 := (unhide HX).cell 3 rfl
  have z0 := (unhide HH).cell 0 rfl
  have z1 := (unhide HH).cell 1 rfl
  have z2 := (unhide HH).cell 2 rfl
  have u0 := (unhide HQW).cell 0 rfl
  have u1 := (unhide HQW).cell 1 rfl
  have u2 := (unhide HQW).cell 2 rfl
  have u3 := (unhide HQW).cell 3 rfl
  have q0 := (unhide HQX).cell 0 rfl
  have q1 := (unhide HQX).cell 1 rfl
  have q2 := (unhide HQX).cell 2 rfl
  have q3 := (unhide HQX).cell 3 rfl
  go_wp2_with fail
  (try clear x0 x1 x2 x3 z0 z1 z2 u0 u1 u2 u3 q0 q1 q2 q3)
  (try clear x0 x1 x2 x3 z0 z1 z2 u0 u1 u2 u3 q0 q1 q2 q3)
  refine wp_region_W (fun w' => Below w4.heap.size w4 w') (by kernel_rfl) (below_drew w4) (fun hHeld => ?_)
  refine tkW 0 (some 48) (v := ?_) ?_ ?_
  rotate_left
  · intro w hSw
    have hT := (unhide HQX).below hSw; have q0 := hT.cell 0 rfl; have q1 := hT.cell 1 rfl; have q2 := hT.cell 2 rfl; have q3 := hT.cell 3 rfl
    first | (go_simp; done) | (go_simp; with_reducible rfl) | with_reducible rfl | rfl
  try simp only [Act.put, List.setIfInBounds_toArray, List.set_cons_zero, List.set_cons_succ]
  refine tkW 1 (some 49) (v := ?_) ?_ ?_
  rotate_left
  · intro w hSw
    first | (go_simp; done) | (go_simp; with_reducible rfl) | with_reducible rfl | rfl
  try simp only [Act.put, List.setIfInBounds_toArray, List.set_cons_zero, List.set_cons_succ]
  refine tkW 2 (some 50) (v := ?_) ?_ ?_
  rotate_left
  · intro w hSw
    first | (go_simp; done) | (go_simp; with_reducible rfl) | with_reducible rfl | rfl
  try simp only [Act.put, List.setIfInBounds_toArray, List.set_cons_zero, List.set_cons_succ]
  refine tkW 3 (some 51) (v := ?_) ?_ ?_
  rotate_left
  · intro w hSw
    have hT := (unhide HH).below hSw; have z0 := hT.cell 0 rfl; have z1 := hT.cell 1 rfl; have z2 := hT.cell 2 rfl
    first | (go_simp; done) | (go_simp; with_reducible rfl) | with_reducible rfl | rfl
  try simp only [Act.put, List.setIfInBounds_toArray, List.set_cons_zero, List.set_cons_succ]
  refine tkW 5 (some 53) (v := ?_) ?_ ?_
  rotate_left
  · intro w hSw
    first | (go_simp; done) | (go_simp; with_reducible rfl) | with_reducible rfl | rfl
  try simp only [Act.put, List.setIfInBounds_toArray, List.set_cons_zero, List.set_cons_succ]
  have HD := below_drew w4
  generalize w4.drew = V0 at *
  refine WA.inv (fun aa listed a w' => ∃ (f4 f6 f10 : Bool) (t16 t47 t52 t54 t55 t56 : Value), listed = #[true, true, true, true, f4, true, f6, f6, f6, f6, f10, false, false] ∧ a = ((((((aa).put (some 16) t16).put (some 47) t47).put (some 52) t52).put (some 54) t54).put (some 55) t55).put (some 56) t56 ∧ Below w4.heap.size w4 w' ∧ (f4 = true → t52 = rowV ra rc rd) ∧ (f6 = true → ∃ a c, t54 = .tuple #[gatV S L O (.slice a ZS.length c), .bool bb] ∧ t47 = .tuple #[gatV S L O (.slice a ZS.length c), .bool bb] ∧ t55 = gatV S L O (.slice a ZS.length c) ∧ t56 = .bool bb ∧ Own w' w4.heap.size (.slice a ZS.length c) ZS) ∧ (f10 = true → ∃ g, t16 = .pointer (some ⟨g, 0, none⟩) ∧ w'.ownsRow w4.heap.size 63 4 (.slice (some ⟨g, 0, none⟩) 1 1) 1 [.int .i64 0, .int .i64 0, .int .i64 0, .slice none 0 0])) [4, 6, 10] ?_ ?_ ?_ ?_
  · refine ⟨false, false, false, undef, undef, undef, undef, undef, undef, rfl, ?_, HD, (fun h => absurd h (by simp)), (fun h => absurd h (by simp)), (fun h => absurd h (by simp))⟩
    simp only [Act.put, List.setIfInBounds_toArray, List.set_cons_zero, List.set_cons_succ]
  · rintro listed a w' ⟨f4, f6, f10, t16, t47, t52, t54, t55, t56, rfl, ha, hb, h4, h6, h10⟩
    refine ⟨rfl, ?_⟩
    clear ha hb h4 h6 h10
    cases f4 <;> cases f6 <;> cases f10 <;> kernel_rfl
  · skip
    refine StepsW.cons (i := 4) (o := { dst := some 52, op := _, type := _, pos := _, after := _, guard := _ }) rfl ?_ ?_
    · as_aux_lemma =>
      rintro listed a w' ⟨f4, f6, f10, t16, t47, t52, t54, t55, t56, rfl, ha, hb, h4, h6, h10⟩ hun hd ih K' hK
      simp only [Act.put, List.setIfInBounds_toArray, List.set_cons_zero, List.set_cons_succ] at ha
      subst ha
      obtain rfl : f4 = false := hun
      replace h4 := hide h4
      replace h6 := hide h6
      replace h10 := hide h10
      go_simp
      go_at_call 96
      refine (c96 ra rc rd _).mono ?_
      rintro e w2 ⟨rfl, hb2⟩
      have hbb := below_then hb hb2
      try go_wp2_with fail
      refine hK.out _ _ hbb (fun hS => ?_)
      try simp only [List.setIfInBounds_toArray, List.set_cons_zero, List.set_cons_succ]
      refine ih _ _ _ ⟨true, f6, f10, t16, t47, (rowV ra rc rd), t54, t55, t56, rfl, (by simp only [Act.put, List.setIfInBounds_toArray, List.set_cons_zero, List.set_cons_succ]), hbb, (fun _ => rfl), (fun hh => (by obtain ⟨a, c, e1, e2, e3, e4, r⟩ := (unhide h6 hh); exact ⟨a, c, e1, e2, e3, e4, r.bel hb2⟩)), (fun hh => (by obtain ⟨g, e, r⟩ := (unhide h10 hh); exact ⟨g, e, owns_below r hb2⟩))⟩ ?_
      clear ih hd hb hbb hK h4 h6 h10
      cases f6 <;> cases f10 <;> decide
    refine StepsW.cons (i := 6) (o := { dst := some 54, op := _, type := _, pos := _, after := _, guard := _ }) rfl ?_ ?_
    · as_aux_lemma =>
      rintro listed a w' ⟨f4, f6, f10, t16, t47, t52, t54, t55, t56, rfl, ha, hb, h4, h6, h10⟩ hun hd ih K' hK
      simp only [Act.put, List.setIfInBounds_toArray, List.set_cons_zero, List.set_cons_succ] at ha
      subst ha
      obtain rfl : f6 = false := hun
      obtain rfl : f4 = true := by cases f4; exact Bool.noConfusion (show false = true from hd); rfl
      obtain rfl := h4 rfl
      clear h4
      replace h6 := hide h6
      replace h10 := hide h10
      go_simp
      go_at_call 97
      refine (c97 s l o zs aX zs.length cX t who ra rc rd ps aP ps.length ps.length _ rfl (by omega) (own_cap0' (show Own w' w1.heap.size (.slice aX zs.length cX) zs from ⟨unhide HFZ, ((unhide HL).bel hb).1 (3, 1, .slice aX zs.length cX, zs.length, zs.map (Value.int .i64)) (by simp)⟩)) (own_rowI (show Own w' w1.heap.size (.slice aX zs.length cX) zs from ⟨unhide HFZ, ((unhide HL).bel hb).1 (3, 1, .slice aX zs.length cX, zs.length, zs.map (Value.int .i64)) (by simp)⟩)) ht (unhide HFR) rfl (Nat.le_refl _) (by omega) (own_rowI (show Own w' w1.heap.size (.slice aP ps.length ps.length) ps from ⟨unhide HFP, ((unhide HL).bel hb).1 (3, 1, .slice aP ps.length ps.length, ps.length, ps.map (Value.int .i64)) (by simp)⟩))).mono ?_
      rintro e w2 ⟨v, rfl, ho, hb2⟩
      rw [unhide HGD] at ho
      rw [unhide HGH, unhide HGB]
      dsimp only
      obtain ⟨a3, c3, rfl⟩ := live_form ho.2
      have hbb := below_then hb hb2
      try go_wp2_with fail
      cases f10
      case false =>
        refine hK.out _ _ hbb (fun hS => ?_)
        try simp only [List.setIfInBounds_toArray, List.set_cons_zero, List.set_cons_succ]
        refine tkW 7 (some 47) (v := ?_) ?_ ?_
        rotate_left
        · intro w hSw
          first | (go_simp; done) | (go_simp; with_reducible rfl) | with_reducible rfl | rfl
        try simp only [Act.put, List.setIfInBounds_toArray, List.set_cons_zero, List.set_cons_succ]
        refine tkW 8 (some 55) (v := ?_) ?_ ?_
        rotate_left
        · intro w hSw
          first | (go_simp; done) | (go_simp; with_reducible rfl) | with_reducible rfl | rfl
        try simp only [Act.put, List.setIfInBounds_toArray, List.set_cons_zero, List.set_cons_succ]
        refine tkW 9 (some 56) (v := ?_) ?_ ?_
        rotate_left
        · intro w hSw
          first | (go_simp; done) | (go_simp; with_reducible rfl) | with_reducible rfl | rfl
        try simp only [Act.put, List.setIfInBounds_toArray, List.set_cons_zero, List.set_cons_succ]
        refine ih _ _ _ ⟨true, true, false, t16, (.tuple #[gatV S L O (.slice a3 ZS.length c3), .bool bb]), (rowV ra rc rd), (.tuple #[gatV S L O (.slice a3 ZS.length c3), .bool bb]), (gatV S L O (.slice a3 ZS.length c3)), (.bool bb), rfl, (by simp only [Act.put, List.setIfInBounds_toArray, List.set_cons_zero, List.set_cons_succ]), hbb, (fun _ => rfl), (fun _ => ⟨a3, c3, rfl, rfl, rfl, rfl, ho.mono hb.size⟩), (fun hh => absurd hh (by simp))⟩ ?_
        clear ih hd hb hbb hK h6 h10
        decide
      case true =>
        refine hK.out _ _ hbb (fun hS => ?_)
        try simp only [List.setIfInBounds_toArray, List.set_cons_zero, List.set_cons_succ]
        refine tkW 7 (some 47) (v := ?_) ?_ ?_
        rotate_left
        · intro w hSw
          first | (go_simp; done) | (go_simp; with_reducible rfl) | with_reducible rfl | rfl
        try simp only [Act.put, List.setIfInBounds_toArray, List.set_cons_zero, List.set_cons_succ]
        refine tkW 8 (some 55) (v := ?_) ?_ ?_
        rotate_left
        · intro w hSw
          first | (go_simp; done) | (go_simp; with_reducible rfl) | with_reducible rfl | rfl
        try simp only [Act.put, List.setIfInBounds_toArray, List.set_cons_zero, List.set_cons_succ]
        refine tkW 9 (some 56) (v := ?_) ?_ ?_
        rotate_left
        · intro w hSw
          first | (go_simp; done) | (go_simp; with_reducible rfl) | with_reducible rfl | rfl
        try simp only [Act.put, List.setIfInBounds_toArray, List.set_cons_zero, List.set_cons_succ]
        refine ih _ _ _ ⟨true, true, true, t16, (.tuple #[gatV S L O (.slice a3 ZS.length c3), .bool bb]), (rowV ra rc rd), (.tuple #[gatV S L O (.slice a3 ZS.length c3), .bool bb]), (gatV S L O (.slice a3 ZS.length c3)), (.bool bb), rfl, (by simp only [Act.put, List.setIfInBounds_toArray, List.set_cons_zero, List.set_cons_succ]), hbb, (fun _ => rfl), (fun _ => ⟨a3, c3, rfl, rfl, rfl, rfl, ho.mono hb.size⟩), (fun hh => (by obtain ⟨g, e, r⟩ := (unhide h10 rfl); exact ⟨g, e, owns_below r hb2⟩))⟩ ?_
        clear ih hd hb hbb hK h6 h10
        decide
    refine StepsW.cons (i := 10) (o := { dst := some 16, op := _, type := _, pos := _, after := _, guard := _ }) rfl ?_ ?_
    · as_aux_lemma =>
      rintro listed a w' ⟨f4, f6, f10, t16, t47, t52, t54, t55, t56, rfl, ha, hb, h4, h6, h10⟩ hun hd ih K' hK
      simp only [Act.put, List.setIfInBounds_toArray, List.set_cons_zero, List.set_cons_succ] at ha
      subst ha
      obtain rfl : f10 = false := hun
      replace h4 := hide h4
      replace h6 := hide h6
      replace h10 := hide h10
      go_simp
      have hb2 : Below w'.heap.size w' (w'.alloc (.cells #[.int .i64 0, .int .i64 0, .int .i64 0, .slice none 0 0] 63)) := below_a _
      have hnew : ∃ g, (Value.pointer (some ⟨w'.heap.size, 0, none⟩)) = .pointer (some ⟨g, 0, none⟩) ∧ (w'.alloc (.cells #[.int .i64 0, .int .i64 0, .int .i64 0, .slice none 0 0] 63)).ownsRow w4.heap.size 63 4 (.slice (some ⟨g, 0, none⟩) 1 1) 1 [.int .i64 0, .int .i64 0, .int .i64 0, .slice none 0 0] := ⟨_, rfl, World.ownsRow_lit w' #[.int .i64 0, .int .i64 0, .int .i64 0, .slice none 0 0] 1 hb.size (by decide) rfl⟩
      generalize (Value.pointer (some ⟨w'.heap.size, 0, none⟩)) = tn at *
      generalize (w'.alloc (.cells #[.int .i64 0, .int .i64 0, .int .i64 0, .slice none 0 0] 63)) = w2 at *
      have hbb := below_then hb hb2
      refine hK.out _ _ hbb (fun hS => ?_)
      try simp only [List.setIfInBounds_toArray, List.set_cons_zero, List.set_cons_succ]
      refine ih _ _ _ ⟨f4, f6, true, tn, t47, t52, t54, t55, t56, rfl, (by simp only [Act.put, List.setIfInBounds_toArray, List.set_cons_zero, List.set_cons_succ]), hbb, (fun hh => (unhide h4 hh)), (fun hh => (by obtain ⟨a, c, e1, e2, e3, e4, r⟩ := (unhide h6 hh); exact ⟨a, c, e1, e2, e3, e4, r.bel hb2⟩)), (fun _ => hnew)⟩ ?_
      clear ih hd hb hbb hK h4 h6 h10
      cases f4 <;> cases f6 <;> decide
    exact StepsW.nil
  rintro listed a w' ⟨f4, f6, f10, t16, t47, t52, t54, t55, t56, rfl, ha, hb, h4, h6, h10⟩ hall
  simp only [Act.put, List.setIfInBounds_toArray, List.set_cons_zero, List.set_cons_succ] at ha
  subst ha
  obtain rfl : f4 = true := hall 4 (by simp)
  obtain rfl : f6 = true := hall 6 (by simp)
  obtain rfl : f10 = true := hall 10 (by simp)
  obtain rfl := h4 rfl
  obtain ⟨a3, c3, rfl, rfl, rfl, rfl, r3⟩ := h6 rfl
  obtain ⟨g4, rfl, r4⟩ := h10 rfl
  clear hall h4 h6 h10
  have hg4 : w4.heap.size ≤ g4 := (r4.lt g4 rfl).1
  have hL2 := live_add2 (x := (3, 1, .slice a3 ZS.length c3, ZS.length, ZS.map (Value.int .i64))) (y := (63, 4, .slice (some ⟨g4, 0, none⟩) 1 1, 1, [.int .i64 0, .int .i64 0, .int .i64 0, .slice none 0 0])) (unhide HL) hb (unhide HBB).size r3.2 r4 (show (3 : Nat) ≠ 63 by decide)
  have q4 := boxRow (hL2.1 (63, 4, .slice (some ⟨g4, 0, none⟩) 1 1, 1, [.int .i64 0, .int .i64 0, .int .i64 0, .slice none 0 0]) (by simp))
  have y0 := q4.cell 0 rfl
  have y0f := q4.frozen 0 rfl
  have y1 := q4.cell 1 rfl
  have y1f := q4.frozen 1 rfl
  have y2 := q4.cell 2 rfl
  have y2f := q4.frozen 2 rfl
  have y3 := q4.cell 3 rfl
  have y3f := q4.frozen 3 rfl
  refine oneW 11 (o := { dst := none, op := _, type := _, pos := _, after := _, guard := _ }) (fun K hK => ?_)
  clear r3 r4 q4 hHeld
  go_simp
  have hL3 := (live_put (A := [(3, 1, .slice a3 ZS.length c3, ZS.length, ZS.map (Value.int .i64))]) (C := [(3, 1, .slice aP ps.length ps.length, ps.length, ps.map (Value.int .i64)), (63, 4, .slice (some ⟨w3.heap.size, 0, none⟩) 1 1, 1, [.int .i64 s, .int .i64 l, .int .i64 o, .slice aX zs.length cX]), (3, 1, .slice aX zs.length cX, zs.length, zs.map (Value.int .i64)), (3, 1, .slice aW ZS.length cW, ZS.length, ZS.map (Value.int .i64)), (63, 4, .slice (some ⟨gW, 0, none⟩) 1 1, 1, [.int .i64 S, .int .i64 L, .int .i64 O, .slice aW ZS.length cW])]) (live_put (A := [(3, 1, .slice a3 ZS.length c3, ZS.length, ZS.map (Value.int .i64))]) (C := [(3, 1, .slice aP ps.length ps.length, ps.length, ps.map (Value.int .i64)), (63, 4, .slice (some ⟨w3.heap.size, 0, none⟩) 1 1, 1, [.int .i64 s, .int .i64 l, .int .i64 o, .slice aX zs.length cX]), (3, 1, .slice aX zs.length cX, zs.length, zs.map (Value.int .i64)), (3, 1, .slice aW ZS.length cW, ZS.length, ZS.map (Value.int .i64)), (63, 4, .slice (some ⟨gW, 0, none⟩) 1 1, 1, [.int .i64 S, .int .i64 L, .int .i64 O, .slice aW ZS.length cW])]) (live_put (A := [(3, 1, .slice a3 ZS.length c3, ZS.length, ZS.map (Value.int .i64))]) (C := [(3, 1, .slice aP ps.length ps.length, ps.length, ps.map (Value.int .i64)), (63, 4, .slice (some ⟨w3.heap.size, 0, none⟩) 1 1, 1, [.int .i64 s, .int .i64 l, .int .i64 o, .slice aX zs.length cX]), (3, 1, .slice aX zs.length cX, zs.length, zs.map (Value.int .i64)), (3, 1, .slice aW ZS.length cW, ZS.length, ZS.map (Value.int .i64)), (63, 4, .slice (some ⟨gW, 0, none⟩) 1 1, 1, [.int .i64 S, .int .i64 L, .int .i64 O, .slice aW ZS.length cW])]) (live_put (A := [(3, 1, .slice a3 ZS.length c3, ZS.length, ZS.map (Value.int .i64))]) (C := [(3, 1, .slice aP ps.length ps.length, ps.length, ps.map (Value.int .i64)), (63, 4, .slice (some ⟨w3.heap.size, 0, none⟩) 1 1, 1, [.int .i64 s, .int .i64 l, .int .i64 o, .slice aX zs.length cX]), (3, 1, .slice aX zs.length cX, zs.length, zs.map (Value.int .i64)), (3, 1, .slice aW ZS.length cW, ZS.length, ZS.map (Value.int .i64)), (63, 4, .slice (some ⟨gW, 0, none⟩) 1 1, 1, [.int .i64 S, .int .i64 L, .int .i64 O, .slice aW ZS.length cW])]) hL2 0 (.int .i64 S)) 1 (.int .i64 L)) 2 (.int .i64 O)) 3 (.slice a3 ZS.length c3))
  have hbS := (below_sc (p := ⟨g4, 3, none⟩) (v := .slice a3 ZS.length c3) (below_sc (p := ⟨g4, 2, none⟩) (v := .int .i64 O) (below_sc (p := ⟨g4, 1, none⟩) (v := .int .i64 L) (below_sc (p := ⟨g4, 0, none⟩) (v := .int .i64 S) hb (by dsimp only; omega)) (by dsimp only; omega)) (by dsimp only; omega)) (by dsimp only; omega))
  refine hK.out _ _ hbS (fun hS3 => ?_)
  clear hK K hS3
  try simp only [List.setIfInBounds_toArray, List.set_cons_zero, List.set_cons_succ]
  replace HL := hide (show Live _ _ [(3, 1, .slice a3 ZS.length c3, ZS.length, ZS.map (Value.int .i64)), (63, 4, .slice (some ⟨g4, 0, none⟩) 1 1, 1, [.int .i64 S, .int .i64 L, .int .i64 O, .slice a3 ZS.length c3]), (3, 1, .slice aP ps.length ps.length, ps.length, ps.map (Value.int .i64)), (63, 4, .slice (some ⟨w3.heap.size, 0, none⟩) 1 1, 1, [.int .i64 s, .int .i64 l, .int .i64 o, .slice aX zs.length cX]), (3, 1, .slice aX zs.length cX, zs.length, zs.map (Value.int .i64)), (3, 1, .slice aW ZS.length cW, ZS.length, ZS.map (Value.int .i64)), (63, 4, .slice (some ⟨gW, 0, none⟩) 1 1, 1, [.int .i64 S, .int .i64 L, .int .i64 O, .slice aW ZS.length cW])] from hL3)
  (try clear y0 y1 y2 y3 y0f y1f y2f y3f)
  replace HBB := hide (below_tr (unhide HBB) hbS)
  replace HX := hide ((unhide HX).bel hbS)
  replace HH := hide ((unhide HH).bel hbS)
  replace HQW := hide ((unhide HQW).bel hbS)
  replace HQX := hide ((unhide HQX).bel hbS)
  clear hb hL2 hL3 hg4
  refine tkW 12 (some 17) (v := ?_) ?_ ?_
  rotate_left
  · intro w hSw
    first | (go_simp; done) | (go_simp; with_reducible rfl) | with_reducible rfl | rfl
  try simp only [Act.put, List.setIfInBounds_toArray, List.set_cons_zero, List.set_cons_succ]
  clear hbS
  refine doneW ?_
  obtain ⟨aG, ea⟩ : ∃ q, q = a3 := ⟨_, rfl⟩
  obtain ⟨cG, ec⟩ : ∃ q, q = c3 := ⟨_, rfl⟩
  obtain ⟨gG, eg⟩ : ∃ q, q = g4 := ⟨_, rfl⟩
  subst ea ec eg
  generalize ((((w').setCell ⟨gG, 0, none⟩ (.int .i64 S)).setCell ⟨gG, 1, none⟩ (.int .i64 L)).setCell ⟨gG, 2, none⟩ (.int .i64 O)).setCell ⟨gG, 3, none⟩ (.slice aG ZS.length cG) = w5 at *
  have HQG := hide (boxRow ((unhide HL).1 (63, 4, .slice (some ⟨gG, 0, none⟩) 1 1, 1, [.int .i64 S, .int .i64 L, .int .i64 O, .slice aG ZS.length cG]) (by simp)))
  have x0 := (unhide HX).cell 0 rfl
  have x1 := (unhide HX).cell 1 rfl
  have x2 := (unhide HX).cell 2 rfl
  have x3 := (unhide HX).cell 3 rfl
  have z0 := (unhide HH).cell 0 rfl
  have z1 := (unhide HH).cell 1 rfl
  have z2 := (unhide HH).cell 2 rfl
  have u0 := (unhide HQW).cell 0 rfl
  have u1 := (unhide HQW).cell 1 rfl
  have u2 := (unhide HQW).cell 2 rfl
  have u3 := (unhide HQW).cell 3 rfl
  have q0 := (unhide HQX).cell 0 rfl
  have q1 := (unhide HQX).cell 1 rfl
  have q2 := (unhide HQX).cell 2 rfl
  have q3 := (unhide HQX).cell 3 rfl
  have p0 := (unhide HQG).cell 0 rfl
  have p1 := (unhide HQG).cell 1 rfl
  have p2 := (unhide HQG).cell 2 rfl
  have p3 := (unhide HQG).cell 3 rfl
  go_wp2_with fail
  refine (sameG S L O ZS aG aW ZS.length cG cW _ rfl hzl (own_rowI (show Own _ w1.heap.size (.slice aG ZS.length cG) ZS from ⟨unhide HFS, (unhide HL).1 (3, 1, .slice aG ZS.length cG, ZS.length, ZS.map (Value.int .i64)) (by simp)⟩)) (own_rowI (show Own _ w1.heap.size (.slice aW ZS.length cW) ZS from ⟨unhide HFS, (unhide HL).1 (3, 1, .slice aW ZS.length cW, ZS.length, ZS.map (Value.int .i64)) (by simp)⟩))).mono ?_
  rintro e w6 ⟨rfl, hb⟩
  (try clear x0 x1 x2 x3 z0 z1 z2 u0 u1 u2 u3 q0 q1 q2 q3 p0 p1 p2 p3)
  replace HBB := hide (below_tr (unhide HBB) hb)
  replace HX := hide ((unhide HX).bel hb)
  replace HH := hide ((unhide HH).bel hb)
  replace HQW := hide ((unhide HQW).bel hb)
  replace HQX := hide ((unhide HQX).bel hb)
  replace HL := hide ((unhide HL).bel hb)
  replace HQG := hide ((unhide HQG).bel hb)
  clear hb
  have x0 := (unhide HX).cell 0 rfl
  have x1 := (unhide HX).cell 1 rfl
  have x2 := (unhide HX).cell 2 rfl
  have x3 := (unhide HX).cell 3 rfl
  have z0 := (unhide HH).cell 0 rfl
  have z1 := (unhide HH).cell 1 rfl
  have z2 := (unhide HH).cell 2 rfl
  have u0 := (unhide HQW).cell 0 rfl
  have u1 := (unhide HQW).cell 1 rfl
  have u2 := (unhide HQW).cell 2 rfl
  have u3 := (unhide HQW).cell 3 rfl
  have q0 := (unhide HQX).cell 0 rfl
  have q1 := (unhide HQX).cell 1 rfl
  have q2 := (unhide HQX).cell 2 rfl
  have q3 := (unhide HQX).cell 3 rfl
  have p0 := (unhide HQG).cell 0 rfl
  have p1 := (unhide HQG).cell 1 rfl
  have p2 := (unhide HQG).cell 2 rfl
  have p3 := (unhide HQG).cell 3 rfl
  go_wp2_with fail
  (try clear x0 x1 x2 x3 z0 z1 z2 u0 u1 u2 u3 q0 q1 q2 q3 p0 p1 p2 p3)
  (try clear x0 x1 x2 x3 z0 z1 z2 u0 u1 u2 u3 q0 q1 q2 q3 p0 p1 p2 p3)
  refine wp_region_held_drew (S := fun w' => Below w6.heap.size w6 w') (by kernel_rfl) (below_drew w6) (fun hHeld => ?_)
  refine wpAnyH_take (i := 0) (oi := { dst := some 66, op := _, type := _, pos := _, after := _, guard := _ }) (v := ?_) rfl (by kernel_rfl) (by kernel_rfl) (by kernel_rfl) (fun _ _ _ h => h) (Or.inl ⟨by rfl, ?_⟩) (by assumption) ?_
  rotate_left
  · intro w hSw
    have hT := (unhide HX).below hSw; have x0 := hT.cell 0 rfl; have x1 := hT.cell 1 rfl; have x2 := hT.cell 2 rfl; have x3 := hT.cell 3 rfl; clear hT; have hT := (unhide HH).below hSw; have z0 := hT.cell 0 rfl; have z1 := hT.cell 1 rfl; have z2 := hT.cell 2 rfl; clear hT; have hT := (unhide HQW).below hSw; have u0 := hT.cell 0 rfl; have u1 := hT.cell 1 rfl; have u2 := hT.cell 2 rfl; have u3 := hT.cell 3 rfl; clear hT; have hT := (unhide HQX).below hSw; have q0 := hT.cell 0 rfl; have q1 := hT.cell 1 rfl; have q2 := hT.cell 2 rfl; have q3 := hT.cell 3 rfl; clear hT; have hT := (unhide HQG).below hSw; have p0 := hT.cell 0 rfl; have p1 := hT.cell 1 rfl; have p2 := hT.cell 2 rfl; have p3 := hT.cell 3 rfl; clear hT
    first | (go_simp; done) | (go_simp; with_reducible rfl) | with_reducible rfl | rfl
  try simp only [Act.put, List.setIfInBounds_toArray, List.set_cons_zero, List.set_cons_succ]
  refine wpAnyH_take (i := 1) (oi := { dst := some 67, op := _, type := _, pos := _, after := _, guard := _ }) (v := ?_) rfl (by kernel_rfl) (by kernel_rfl) (by kernel_rfl) (fun _ _ _ h => h) (Or.inl ⟨by rfl, ?_⟩) (by assumption) ?_
  rotate_left
  · intro w hSw
    have hT := (unhide HX).below hSw; have x0 := hT.cell 0 rfl; have x1 := hT.cell 1 rfl; have x2 := hT.cell 2 rfl; have x3 := hT.cell 3 rfl; clear hT; have hT := (unhide HH).below hSw; have z0 := hT.cell 0 rfl; have z1 := hT.cell 1 rfl; have z2 := hT.cell 2 rfl; clear hT; have hT := (unhide HQW).below hSw; have u0 := hT.cell 0 rfl; have u1 := hT.cell 1 rfl; have u2 := hT.cell 2 rfl; have u3 := hT.cell 3 rfl; clear hT; have hT := (unhide HQX).below hSw; have q0 := hT.cell 0 rfl; have q1 := hT.cell 1 rfl; have q2 := hT.cell 2 rfl; have q3 := hT.cell 3 rfl; clear hT; have hT := (unhide HQG).below hSw; have p0 := hT.cell 0 rfl; have p1 := hT.cell 1 rfl; have p2 := hT.cell 2 rfl; have p3 := hT.cell 3 rfl; clear hT
    first | (go_simp; done) | (go_simp; with_reducible rfl) | with_reducible rfl | rfl
  try simp only [Act.put, List.setIfInBounds_toArray, List.set_cons_zero, List.set_cons_succ]
  have HD := below_drew w6
  generalize w6.drew = V0 at *
  refine wpAnyH_ready (rs := [2]) (by kernel_rfl) (by simp) ?_
  refine AllReadyH.cons (o := { dst := some 68, op := _, type := _, pos := _, after := _, guard := _ }) rfl (fun K hK => ?_) AllReadyH.nil
  go_simp
  go_at_call 88
  refine (c88 s l o zs ao zs.length cap _ rfl (by omega) ((unhide HR).bel (below_tr (unhide HB) (below_tr (unhide HBB) HD)))).mono ?_
  rintro e V1 ⟨v, rfl, ho, hb⟩
  replace HD := below_then HD hb
  clear hb
  obtain ⟨aZ, cZ, rfl⟩ := live_form ho.2
  have hoV := own_rowI ho
  clear ho
  try go_wp2_with fail
  refine hK.out _ _ HD (fun hHeld => ?_)
  clear hK K hHeld
  try simp only [Act.put, List.setIfInBounds_toArray, List.set_cons_zero, List.set_cons_succ]
  refine wpAnyH_ready (rs := [3]) (by kernel_rfl) (by simp) ?_
  refine AllReadyH.cons (o := { dst := some 69, op := _, type := _, pos := _, after := _, guard := _ }) rfl (fun K hK => ?_) AllReadyH.nil
  go_simp
  go_at_call 90
  refine (sameG s l o zs aX aZ zs.length cX cZ _ rfl hb2 (own_rowI (show Own _ w1.heap.size (.slice aX zs.length cX) zs from ⟨unhide HFZ, ((unhide HL).bel HD).1 (3, 1, .slice aX zs.length cX, zs.length, zs.map (Value.int .i64)) (by simp)⟩)) hoV).mono ?_
  rintro e V2 ⟨rfl, hb⟩
  replace hoV := hoV.bel hb
  replace HD := below_then HD hb
  clear hb
  try go_wp2_with fail
  refine hK.out _ _ HD (fun hHeld => ?_)
  clear hK K hHeld
  try simp only [Act.put, List.setIfInBounds_toArray, List.set_cons_zero, List.set_cons_succ]
  refine wpAnyH_take (i := 4) (oi := { dst := some 70, op := _, type := _, pos := _, after := _, guard := _ }) (v := ?_) rfl (by kernel_rfl) (by kernel_rfl) (by kernel_rfl) (fun _ _ _ h => h) (Or.inl ⟨by rfl, ?_⟩) (by assumption) ?_
  rotate_left
  · intro w hSw
    first | (go_simp; done) | (go_simp; with_reducible rfl) | with_reducible rfl | rfl
  try simp only [Act.put, List.setIfInBounds_toArray, List.set_cons_zero, List.set_cons_succ]
  refine wpAnyH_done (by kernel_rfl) ?_ _
  replace HBB := hide (below_tr (unhide HBB) HD)
  replace HX := hide ((unhide HX).bel HD)
  replace HH := hide ((unhide HH).bel HD)
  replace HQW := hide ((unhide HQW).bel HD)
  replace HQX := hide ((unhide HQX).bel HD)
  replace HL := hide ((unhide HL).bel HD)
  replace HQG := hide ((unhide HQG).bel HD)
  have HhoV := hide hoV
  clear HD hoV
  have x0 := (unhide HX).cell 0 rfl
  have x1 := (unhide HX).cell 1 rfl
  have x2 := (unhide HX).cell 2 rfl
  have x3 := (unhide HX).cell 3 rfl
  have z0 := (unhide HH).cell 0 rfl
  have z1 := (unhide HH).cell 1 rfl
  have z2 := (unhide HH).cell 2 rfl
  have u0 := (unhide HQW).cell 0 rfl
  have u1 := (unhide HQW).cell 1 rfl
  have u2 := (unhide HQW).cell 2 rfl
  have u3 := (unhide HQW).cell 3 rfl
  have q0 := (unhide HQX).cell 0 rfl
  have q1 := (unhide HQX).cell 1 rfl
  have q2 := (unhide HQX).cell 2 rfl
  have q3 := (unhide HQX).cell 3 rfl
  have p0 := (unhide HQG).cell 0 rfl
  have p1 := (unhide HQG).cell 1 rfl
  have p2 := (unhide HQG).cell 2 rfl
  have p3 := (unhide HQG).cell 3 rfl
  clear HhoV
  go_wp2_with fail
  refine (toI2 ps bo ps.length cap' _ rfl (by omega) ((unhide HP).bel (below_tr (unhide HB) (unhide HBB)))).mono ?_
  rintro e w7 ⟨aQ, rfl, ho, hb⟩
  (try clear x0 x1 x2 x3 z0 z1 z2 u0 u1 u2 u3 q0 q1 q2 q3 p0 p1 p2 p3)
  replace HBB := hide (below_tr (unhide HBB) hb)
  replace HX := hide ((unhide HX).bel hb)
  replace HH := hide ((unhide HH).bel hb)
  replace HQW := hide ((unhide HQW).bel hb)
  replace HQX := hide ((unhide HQX).bel hb)
  replace HL := hide ((unhide HL).bel hb)
  replace HQG := hide ((unhide HQG).bel hb)
  have HQ2 := hide (own_rowI ho)
  clear hb ho
  have x0 := (unhide HX).cell 0 rfl
  have x1 := (unhide HX).cell 1 rfl
  have x2 := (unhide HX).cell 2 rfl
  have x3 := (unhide HX).cell 3 rfl
  have z0 := (unhide HH).cell 0 rfl
  have z1 := (unhide HH).cell 1 rfl
  have z2 := (unhide HH).cell 2 rfl
  have u0 := (unhide HQW).cell 0 rfl
  have u1 := (unhide HQW).cell 1 rfl
  have u2 := (unhide HQW).cell 2 rfl
  have u3 := (unhide HQW).cell 3 rfl
  have q0 := (unhide HQX).cell 0 rfl
  have q1 := (unhide HQX).cell 1 rfl
  have q2 := (unhide HQX).cell 2 rfl
  have q3 := (unhide HQX).cell 3 rfl
  have p0 := (unhide HQG).cell 0 rfl
  have p1 := (unhide HQG).cell 1 rfl
  have p2 := (unhide HQG).cell 2 rfl
  have p3 := (unhide HQG).cell 3 rfl
  go_wp2_with fail
  refine (sameI ps aP aQ ps.length ps.length ps.length _ rfl (by omega) (own_rowI (show Own _ w1.heap.size (.slice aP ps.length ps.length) ps from ⟨unhide HFP, (unhide HL).1 (3, 1, .slice aP ps.length ps.length, ps.length, ps.map (Value.int .i64)) (by simp)⟩)) (unhide HQ2)).mono ?_
  rintro e w8 ⟨rfl, hb⟩
  (try clear x0 x1 x2 x3 z0 z1 z2 u0 u1 u2 u3 q0 q1 q2 q3 p0 p1 p2 p3)
  replace HBB := hide (below_tr (unhide HBB) hb)
  replace HX := hide ((unhide HX).bel hb)
  replace HH := hide ((unhide HH).bel hb)
  replace HQW := hide ((unhide HQW).bel hb)
  replace HQX := hide ((unhide HQX).bel hb)
  replace HL := hide ((unhide HL).bel hb)
  replace HQG := hide ((unhide HQG).bel hb)
  clear HQ2
  clear hb
  have x0 := (unhide HX).cell 0 rfl
  have x1 := (unhide HX).cell 1 rfl
  have x2 := (unhide HX).cell 2 rfl
  have x3 := (unhide HX).cell 3 rfl
  have z0 := (unhide HH).cell 0 rfl
  have z1 := (unhide HH).cell 1 rfl
  have z2 := (unhide HH).cell 2 rfl
  have u0 := (unhide HQW).cell 0 rfl
  have u1 := (unhide HQW).cell 1 rfl
  have u2 := (unhide HQW).cell 2 rfl
  have u3 := (unhide HQW).cell 3 rfl
  have q0 := (unhide HQX).cell 0 rfl
  have q1 := (unhide HQX).cell 1 rfl
  have q2 := (unhide HQX).cell 2 rfl
  have q3 := (unhide HQX).cell 3 rfl
  have p0 := (unhide HQG).cell 0 rfl
  have p1 := (unhide HQG).cell 1 rfl
  have p2 := (unhide HQG).cell 2 rfl
  have p3 := (unhide HQG).cell 3 rfl
  go_wp2_with fail
  obtain ⟨qk, hqk⟩ : ∃ q : Nat, q = zs.length + 1 := ⟨_, rfl⟩
  have hk1 : ((zs.length : Int) + 1) = (qk : Int) := by omega
  have hk2 : ¬ ((ps.length : Int) + (qk : Int) < 0) := by omega
  have hk3 : ¬ ((ZS.length : Int) + 1 < 0) := by omega
  have hqk2 : qk ≤ 100000000 := by omega
  clear hqk
  have hrw := (unhide HL).1 (3, 1, .slice aX zs.length cX, zs.length, zs.map (Value.int .i64)) (by simp)
  refine (markG s l o zs _ aX zs.length cX _ rfl hb2 (show Own _ w1.heap.size (.slice aX zs.length cX) zs from ⟨unhide HFZ, (unhide HL).1 (3, 1, .slice aX zs.length cX, zs.length, zs.map (Value.int .i64)) (by simp)⟩)).mono ?_
  rintro e w9 ⟨rfl, hh, hg⟩
  (try clear x0 x1 x2 x3 z0 z1 z2 u0 u1 u2 u3 q0 q1 q2 q3 p0 p1 p2 p3)
  replace HL := hide (live_drop (A := [(3, 1, .slice aG ZS.length cG, ZS.length, ZS.map (Value.int .i64)), (63, 4, .slice (some ⟨gG, 0, none⟩) 1 1, 1, [.int .i64 S, .int .i64 L, .int .i64 O, .slice aG ZS.length cG]), (3, 1, .slice aP ps.length ps.length, ps.length, ps.map (Value.int .i64)), (63, 4, .slice (some ⟨w3.heap.size, 0, none⟩) 1 1, 1, [.int .i64 s, .int .i64 l, .int .i64 o, .slice aX zs.length cX])]) (C := [(3, 1, .slice aW ZS.length cW, ZS.length, ZS.map (Value.int .i64)), (63, 4, .slice (some ⟨gW, 0, none⟩) 1 1, 1, [.int .i64 S, .int .i64 L, .int .i64 O, .slice aW ZS.length cW])]) (unhide HL) hg)
  replace HBB := hide (grown_below (unhide HBB) hg (fun q hq => (hrw.lt q hq).1))
  simp only [List.cons_append, List.nil_append] at HL
  clear hg hrw
  (try clear x0 x1 x2 x3 z0 z1 z2 u0 u1 u2 u3 q0 q1 q2 q3 p0 p1 p2 p3)
  replace HX := hide ((unhide HX1).bel (unhide HBB))
  replace HH := hide ((unhide HH1).bel (unhide HBB))
  replace HQW := hide (boxRow ((unhide HL).1 (63, 4, .slice (some ⟨gW, 0, none⟩) 1 1, 1, [.int .i64 S, .int .i64 L, .int .i64 O, .slice aW ZS.length cW]) (by simp)))
  replace HQX := hide (boxRow ((unhide HL).1 (63, 4, .slice (some ⟨w3.heap.size, 0, none⟩) 1 1, 1, [.int .i64 s, .int .i64 l, .int .i64 o, .slice aX zs.length cX]) (by simp)))
  replace HQG := hide (boxRow ((unhide HL).1 (63, 4, .slice (some ⟨gG, 0, none⟩) 1 1, 1, [.int .i64 S, .int .i64 L, .int .i64 O, .slice aG ZS.length cG]) (by simp)))
  have x0 := (unhide HX).cell 0 rfl
  have x1 := (unhide HX).cell 1 rfl
  have x2 := (unhide HX).cell 2 rfl
  have x3 := (unhide HX).cell 3 rfl
  have z0 := (unhide HH).cell 0 rfl
  have z1 := (unhide HH).cell 1 rfl
  have z2 := (unhide HH).cell 2 rfl
  have u0 := (unhide HQW).cell 0 rfl
  have u1 := (unhide HQW).cell 1 rfl
  have u2 := (unhide HQW).cell 2 rfl
  have u3 := (unhide HQW).cell 3 rfl
  have q0 := (unhide HQX).cell 0 rfl
  have q1 := (unhide HQX).cell 1 rfl
  have q2 := (unhide HQX).cell 2 rfl
  have q3 := (unhide HQX).cell 3 rfl
  have p0 := (unhide HQG).cell 0 rfl
  have p1 := (unhide HQG).cell 1 rfl
  have p2 := (unhide HQG).cell 2 rfl
  have p3 := (unhide HQG).cell 3 rfl
  rw [hk1]
  clear hh
  go_wp2_with fail
  have hrw := (unhide HL).1 (3, 1, .slice aP ps.length ps.length, ps.length, ps.map (Value.int .i64)) (by simp)
  refine (c93g ps _ qk (.slice aP ps.length ps.length) _ (by omega) hqk2 (show Own _ w1.heap.size (.slice aP ps.length ps.length) ps from ⟨unhide HFP, (unhide HL).1 (3, 1, .slice aP ps.length ps.length, ps.length, ps.map (Value.int .i64)) (by simp)⟩)).mono ?_
  rintro e w10 ⟨rfl, -, hg⟩
  (try clear x0 x1 x2 x3 z0 z1 z2 u0 u1 u2 u3 q0 q1 q2 q3 p0 p1 p2 p3)
  replace HL := hide (live_drop (A := [(3, 1, .slice aG ZS.length cG, ZS.length, ZS.map (Value.int .i64)), (63, 4, .slice (some ⟨gG, 0, none⟩) 1 1, 1, [.int .i64 S, .int .i64 L, .int .i64 O, .slice aG ZS.length cG])]) (C := [(63, 4, .slice (some ⟨w3.heap.size, 0, none⟩) 1 1, 1, [.int .i64 s, .int .i64 l, .int .i64 o, .slice aX zs.length cX]), (3, 1, .slice aW ZS.length cW, ZS.length, ZS.map (Value.int .i64)), (63, 4, .slice (some ⟨gW, 0, none⟩) 1 1, 1, [.int .i64 S, .int .i64 L, .int .i64 O, .slice aW ZS.length cW])]) (unhide HL) hg)
  replace HBB := hide (grown_below (unhide HBB) hg (fun q hq => (hrw.lt q hq).1))
  simp only [List.cons_append, List.nil_append] at HL
  clear hg hrw
  (try clear x0 x1 x2 x3 z0 z1 z2 u0 u1 u2 u3 q0 q1 q2 q3 p0 p1 p2 p3)
  replace HX := hide ((unhide HX1).bel (unhide HBB))
  replace HH := hide ((unhide HH1).bel (unhide HBB))
  replace HQW := hide (boxRow ((unhide HL).1 (63, 4, .slice (some ⟨gW, 0, none⟩) 1 1, 1, [.int .i64 S, .int .i64 L, .int .i64 O, .slice aW ZS.length cW]) (by simp)))
  replace HQX := hide (boxRow ((unhide HL).1 (63, 4, .slice (some ⟨w3.heap.size, 0, none⟩) 1 1, 1, [.int .i64 s, .int .i64 l, .int .i64 o, .slice aX zs.length cX]) (by simp)))
  replace HQG := hide (boxRow ((unhide HL).1 (63, 4, .slice (some ⟨gG, 0, none⟩) 1 1, 1, [.int .i64 S, .int .i64 L, .int .i64 O, .slice aG ZS.length cG]) (by simp)))
  have x0 := (unhide HX).cell 0 rfl
  have x1 := (unhide HX).cell 1 rfl
  have x2 := (unhide HX).cell 2 rfl
  have x3 := (unhide HX).cell 3 rfl
  have z0 := (unhide HH).cell 0 rfl
  have z1 := (unhide HH).cell 1 rfl
  have z2 := (unhide HH).cell 2 rfl
  have u0 := (unhide HQW).cell 0 rfl
  have u1 := (unhide HQW).cell 1 rfl
  have u2 := (unhide HQW).cell 2 rfl
  have u3 := (unhide HQW).cell 3 rfl
  have q0 := (unhide HQX).cell 0 rfl
  have q1 := (unhide HQX).cell 1 rfl
  have q2 := (unhide HQX).cell 2 rfl
  have q3 := (unhide HQX).cell 3 rfl
  have p0 := (unhide HQG).cell 0 rfl
  have p1 := (unhide HQG).cell 1 rfl
  have p2 := (unhide HQG).cell 2 rfl
  have p3 := (unhide HQG).cell 3 rfl
  go_wp2_with fail
  refine (sameG S L O ZS aG aW ZS.length cG cW _ rfl hzl (own_rowI (show Own _ w1.heap.size (.slice aG ZS.length cG) ZS from ⟨unhide HFS, (unhide HL).1 (3, 1, .slice aG ZS.length cG, ZS.length, ZS.map (Value.int .i64)) (by simp)⟩)) (own_rowI (show Own _ w1.heap.size (.slice aW ZS.length cW) ZS from ⟨unhide HFS, (unhide HL).1 (3, 1, .slice aW ZS.length cW, ZS.length, ZS.map (Value.int .i64)) (by simp)⟩))).mono ?_
  rintro e w11 ⟨rfl, hb⟩
  (try clear x0 x1 x2 x3 z0 z1 z2 u0 u1 u2 u3 q0 q1 q2 q3 p0 p1 p2 p3)
  replace HBB := hide (below_tr (unhide HBB) hb)
  replace HX := hide ((unhide HX).bel hb)
  replace HH := hide ((unhide HH).bel hb)
  replace HQW := hide ((unhide HQW).bel hb)
  replace HQX := hide ((unhide HQX).bel hb)
  replace HL := hide ((unhide HL).bel hb)
  replace HQG := hide ((unhide HQG).bel hb)
  clear hb
  have x0 := (unhide HX).cell 0 rfl
  have x1 := (unhide HX).cell 1 rfl
  have x2 := (unhide HX).cell 2 rfl
  have x3 := (unhide HX).cell 3 rfl
  have z0 := (unhide HH).cell 0 rfl
  have z1 := (unhide HH).cell 1 rfl
  have z2 := (unhide HH).cell 2 rfl
  have u0 := (unhide HQW).cell 0 rfl
  have u1 := (unhide HQW).cell 1 rfl
  have u2 := (unhide HQW).cell 2 rfl
  have u3 := (unhide HQW).cell 3 rfl
  have q0 := (unhide HQX).cell 0 rfl
  have q1 := (unhide HQX).cell 1 rfl
  have q2 := (unhide HQX).cell 2 rfl
  have q3 := (unhide HQX).cell 3 rfl
  have p0 := (unhide HQG).cell 0 rfl
  have p1 := (unhide HQG).cell 1 rfl
  have p2 := (unhide HQG).cell 2 rfl
  have p3 := (unhide HQG).cell 3 rfl
  go_wp2_with fail
  have hrw := (unhide HL).1 (3, 1, .slice aG ZS.length cG, ZS.length, ZS.map (Value.int .i64)) (by simp)
  refine (markG S L O ZS _ aG ZS.length cG _ rfl hzl (show Own _ w1.heap.size (.slice aG ZS.length cG) ZS from ⟨unhide HFS, (unhide HL).1 (3, 1, .slice aG ZS.length cG, ZS.length, ZS.map (Value.int .i64)) (by simp)⟩)).mono ?_
  rintro e w12 ⟨rfl, hh, hg⟩
  (try clear x0 x1 x2 x3 z0 z1 z2 u0 u1 u2 u3 q0 q1 q2 q3 p0 p1 p2 p3)
  replace HL := hide (live_drop (A := []) (C := [(63, 4, .slice (some ⟨gG, 0, none⟩) 1 1, 1, [.int .i64 S, .int .i64 L, .int .i64 O, .slice aG ZS.length cG]), (63, 4, .slice (some ⟨w3.heap.size, 0, none⟩) 1 1, 1, [.int .i64 s, .int .i64 l, .int .i64 o, .slice aX zs.length cX]), (3, 1, .slice aW ZS.length cW, ZS.length, ZS.map (Value.int .i64)), (63, 4, .slice (some ⟨gW, 0, none⟩) 1 1, 1, [.int .i64 S, .int .i64 L, .int .i64 O, .slice aW ZS.length cW])]) (unhide HL) hg)
  replace HBB := hide (grown_below (unhide HBB) hg (fun q hq => (hrw.lt q hq).1))
  clear hg hrw
  have HHG := hide hh
  clear hh
  (try clear x0 x1 x2 x3 z0 z1 z2 u0 u1 u2 u3 q0 q1 q2 q3 p0 p1 p2 p3)
  replace HX := hide ((unhide HX1).bel (unhide HBB))
  replace HH := hide ((unhide HH1).bel (unhide HBB))
  replace HQW := hide (boxRow ((unhide HL).1 (63, 4, .slice (some ⟨gW, 0, none⟩) 1 1, 1, [.int .i64 S, .int .i64 L, .int .i64 O, .slice aW ZS.length cW]) (by simp)))
  replace HQX := hide (boxRow ((unhide HL).1 (63, 4, .slice (some ⟨w3.heap.size, 0, none⟩) 1 1, 1, [.int .i64 s, .int .i64 l, .int .i64 o, .slice aX zs.length cX]) (by simp)))
  replace HQG := hide (boxRow ((unhide HL).1 (63, 4, .slice (some ⟨gG, 0, none⟩) 1 1, 1, [.int .i64 S, .int .i64 L, .int .i64 O, .slice aG ZS.length cG]) (by simp)))
  have x0 := (unhide HX).cell 0 rfl
  have x1 := (unhide HX).cell 1 rfl
  have x2 := (unhide HX).cell 2 rfl
  have x3 := (unhide HX).cell 3 rfl
  have z0 := (unhide HH).cell 0 rfl
  have z1 := (unhide HH).cell 1 rfl
  have z2 := (unhide HH).cell 2 rfl
  have u0 := (unhide HQW).cell 0 rfl
  have u1 := (unhide HQW).cell 1 rfl
  have u2 := (unhide HQW).cell 2 rfl
  have u3 := (unhide HQW).cell 3 rfl
  have q0 := (unhide HQX).cell 0 rfl
  have q1 := (unhide HQX).cell 1 rfl
  have q2 := (unhide HQX).cell 2 rfl
  have q3 := (unhide HQX).cell 3 rfl
  have p0 := (unhide HQG).cell 0 rfl
  have p1 := (unhide HQG).cell 1 rfl
  have p2 := (unhide HQG).cell 2 rfl
  have p3 := (unhide HQG).cell 3 rfl
  go_wp2_with fail
  refine (heldG S L O ZS aG ZS.length cG _ rfl hzl (unhide HHG)).mono ?_
  rintro e w13 ⟨rfl, hb⟩
  (try clear x0 x1 x2 x3 z0 z1 z2 u0 u1 u2 u3 q0 q1 q2 q3 p0 p1 p2 p3)
  replace HBB := hide (below_tr (unhide HBB) hb)
  replace HX := hide ((unhide HX).bel hb)
  replace HH := hide ((unhide HH).bel hb)
  replace HQW := hide ((unhide HQW).bel hb)
  replace HQX := hide ((unhide HQX).bel hb)
  replace HL := hide ((unhide HL).bel hb)
  replace HQG := hide ((unhide HQG).bel hb)
  replace HHG := hide ((unhide HHG).bel hb)
  clear hb
  have x0 := (unhide HX).cell 0 rfl
  have x1 := (unhide HX).cell 1 rfl
  have x2 := (unhide HX).cell 2 rfl
  have x3 := (unhide HX).cell 3 rfl
  have z0 := (unhide HH).cell 0 rfl
  have z1 := (unhide HH).cell 1 rfl
  have z2 := (unhide HH).cell 2 rfl
  have u0 := (unhide HQW).cell 0 rfl
  have u1 := (unhide HQW).cell 1 rfl
  have u2 := (unhide HQW).cell 2 rfl
  have u3 := (unhide HQW).cell 3 rfl
  have q0 := (unhide HQX).cell 0 rfl
  have q1 := (unhide HQX).cell 1 rfl
  have q2 := (unhide HQX).cell 2 rfl
  have q3 := (unhide HQX).cell 3 rfl
  have p0 := (unhide HQG).cell 0 rfl
  have p1 := (unhide HQG).cell 1 rfl
  have p2 := (unhide HQG).cell 2 rfl
  have p3 := (unhide HQG).cell 3 rfl
  go_wp2_with fail
  (try clear x0 x1 x2 x3 z0 z1 z2 u0 u1 u2 u3 q0 q1 q2 q3 p0 p1 p2 p3)
  (try clear x0 x1 x2 x3 z0 z1 z2 u0 u1 u2 u3 q0 q1 q2 q3 p0 p1 p2 p3)
  refine wp_region_W (fun w' => Below w13.heap.size w13 w') (by kernel_rfl) (below_drew w13) (fun hHeld => ?_)
  refine tkW 0 (some 107) (v := ?_) ?_ ?_
  rotate_left
  · intro w hSw
    have hT := (unhide HX).below hSw; have x0 := hT.cell 0 rfl; have x1 := hT.cell 1 rfl; have x2 := hT.cell 2 rfl; have x3 := hT.cell 3 rfl
    first | (go_simp; done) | (go_simp; with_reducible rfl) | with_reducible rfl | rfl
  try simp only [Act.put, List.setIfInBounds_toArray, List.set_cons_zero, List.set_cons_succ]
  refine tkW 2 (some 109) (v := ?_) ?_ ?_
  rotate_left
  · intro w hSw
    first | (go_simp; done) | (go_simp; with_reducible rfl) | with_reducible rfl | rfl
  try simp only [Act.put, List.setIfInBounds_toArray, List.set_cons_zero, List.set_cons_succ]
  refine tkW 3 (some 110) (v := ?_) ?_ ?_
  rotate_left
  · intro w hSw
    first | (go_simp; done) | (go_simp; with_reducible rfl) | with_reducible rfl | rfl
  try simp only [Act.put, List.setIfInBounds_toArray, List.set_cons_zero, List.set_cons_succ]
  refine tkW 4 (some 111) (v := ?_) ?_ ?_
  rotate_left
  · intro w hSw
    have hT := (unhide HH).below hSw; have z0 := hT.cell 0 rfl; have z1 := hT.cell 1 rfl; have z2 := hT.cell 2 rfl
    first | (go_simp; done) | (go_simp; with_reducible rfl) | with_reducible rfl | rfl
  try simp only [Act.put, List.setIfInBounds_toArray, List.set_cons_zero, List.set_cons_succ]
  refine tkW 6 (some 113) (v := ?_) ?_ ?_
  rotate_left
  · intro w hSw
    first | (go_simp; done) | (go_simp; with_reducible rfl) | with_reducible rfl | rfl
  try simp only [Act.put, List.setIfInBounds_toArray, List.set_cons_zero, List.set_cons_succ]
  have HD := below_drew w13
  generalize w13.drew = V0 at *
  refine WA.inv (fun aa listed a w' => ∃ (f1 f5 f7 f8 f12 : Bool) (t21 t106 t108 t112 t114 t115 t116 t117 : Value), listed = #[true, f1, true, true, true, f5, true, f7, f8, f8, f8, f8, f12, false, false] ∧ a = ((((((((aa).put (some 21) t21).put (some 106) t106).put (some 108) t108).put (some 112) t112).put (some 114) t114).put (some 115) t115).put (some 116) t116).put (some 117) t117 ∧ Below w13.heap.size w13 w' ∧ (f1 = true → ∃ a c, t108 = gatV s l o (.slice a zs.length c) ∧ Own w' w13.heap.size (.slice a zs.length c) zs) ∧ (f5 = true → t112 = rowV ra rc rd) ∧ (f7 = true → ∃ a, t114 = .slice a ps.length ps.length ∧ Own w' w13.heap.size (.slice a ps.length ps.length) ps) ∧ (f8 = true → ∃ a c, t115 = .tuple #[gatV S L O (.slice a ZS.length c), .bool bb] ∧ t106 = .tuple #[gatV S L O (.slice a ZS.length c), .bool bb] ∧ t116 = gatV S L O (.slice a ZS.length c) ∧ t117 = .bool bb ∧ Own w' w13.heap.size (.slice a ZS.length c) ZS) ∧ (f12 = true → ∃ g, t21 = .pointer (some ⟨g, 0, none⟩) ∧ w'.ownsRow w13.heap.size 63 4 (.slice (some ⟨g, 0, none⟩) 1 1) 1 [.int .i64 0, .int .i64 0, .int .i64 0, .slice none 0 0])) [1, 5, 7, 8, 12] ?_ ?_ ?_ ?_
  · refine ⟨false, false, false, false, false, undef, undef, undef, undef, undef, undef, undef, undef, rfl, ?_, HD, (fun h => absurd h (by simp)), (fun h => absurd h (by simp)), (fun h => absurd h (by simp)), (fun h => absurd h (by simp)), (fun h => absurd h (by simp))⟩
    simp only [Act.put, List.setIfInBounds_toArray, List.set_cons_zero, List.set_cons_succ]
  · rintro listed a w' ⟨f1, f5, f7, f8, f12, t21, t106, t108, t112, t114, t115, t116, t117, rfl, ha, hb, h1, h5, h7, h8, h12⟩
    refine ⟨rfl, ?_⟩
    clear ha hb h1 h5 h7 h8 h12
    cases f1 <;> cases f5 <;> cases f7 <;> cases f8 <;> cases f12 <;> kernel_rfl
  · skip
    refine StepsW.cons (i := 1) (o := { dst := some 108, op := _, type := _, pos := _, after := _, guard := _ }) rfl ?_ ?_
    · as_aux_lemma =>
      rintro listed a w' ⟨f1, f5, f7, f8, f12, t21, t106, t108, t112, t114, t115, t116, t117, rfl, ha, hb, h1, h5, h7, h8, h12⟩ hun hd ih K' hK
      simp only [Act.put, List.setIfInBounds_toArray, List.set_cons_zero, List.set_cons_succ] at ha
      subst ha
      obtain rfl : f1 = false := hun
      replace h1 := hide h1
      replace h5 := hide h5
      replace h7 := hide h7
      replace h8 := hide h8
      replace h12 := hide h12
      go_simp
      go_at_call 88
      refine (c88 s l o zs ao zs.length cap _ rfl (by omega) ((unhide HR).bel (below_tr (unhide HB) (below_tr (unhide HBB) hb)))).mono ?_
      rintro e w2 ⟨v, rfl, ho, hb2⟩
      obtain ⟨a1, c1, rfl⟩ := live_form ho.2
      have hbb := below_then hb hb2
      try go_wp2_with fail
      refine hK.out _ _ hbb (fun hS => ?_)
      try simp only [List.setIfInBounds_toArray, List.set_cons_zero, List.set_cons_succ]
      refine ih _ _ _ ⟨true, f5, f7, f8, f12, t21, t106, (gatV s l o (.slice a1 zs.length c1)), t112, t114, t115, t116, t117, rfl, (by simp only [Act.put, List.setIfInBounds_toArray, List.set_cons_zero, List.set_cons_succ]), hbb, (fun _ => ⟨a1, c1, rfl, ho.mono hb.size⟩), (fun hh => (unhide h5 hh)), (fun hh => (by obtain ⟨a, e, r⟩ := (unhide h7 hh); exact ⟨a, e, r.bel hb2⟩)), (fun hh => (by obtain ⟨a, c, e1, e2, e3, e4, r⟩ := (unhide h8 hh); exact ⟨a, c, e1, e2, e3, e4, r.bel hb2⟩)), (fun hh => (by obtain ⟨g, e, r⟩ := (unhide h12 hh); exact ⟨g, e, owns_below r hb2⟩))⟩ ?_
      clear ih hd hb hbb hK h1 h5 h7 h8 h12
      cases f5 <;> cases f7 <;> cases f8 <;> cases f12 <;> decide
    refine StepsW.cons (i := 5) (o := { dst := some 112, op := _, type := _, pos := _, after := _, guard := _ }) rfl ?_ ?_
    · as_aux_lemma =>
      rintro listed a w' ⟨f1, f5, f7, f8, f12, t21, t106, t108, t112, t114, t115, t116, t117, rfl, ha, hb, h1, h5, h7, h8, h12⟩ hun hd ih K' hK
      simp only [Act.put, List.setIfInBounds_toArray, List.set_cons_zero, List.set_cons_succ] at ha
      subst ha
      obtain rfl : f5 = false := hun
      replace h1 := hide h1
      replace h5 := hide h5
      replace h7 := hide h7
      replace h8 := hide h8
      replace h12 := hide h12
      go_simp
      go_at_call 96
      refine (c96 ra rc rd _).mono ?_
      rintro e w2 ⟨rfl, hb2⟩
      have hbb := below_then hb hb2
      try go_wp2_with fail
      refine hK.out _ _ hbb (fun hS => ?_)
      try simp only [List.setIfInBounds_toArray, List.set_cons_zero, List.set_cons_succ]
      refine ih _ _ _ ⟨f1, true, f7, f8, f12, t21, t106, t108, (rowV ra rc rd), t114, t115, t116, t117, rfl, (by simp only [Act.put, List.setIfInBounds_toArray, List.set_cons_zero, List.set_cons_succ]), hbb, (fun hh => (by obtain ⟨a, c, e, r⟩ := (unhide h1 hh); exact ⟨a, c, e, r.bel hb2⟩)), (fun _ => rfl), (fun hh => (by obtain ⟨a, e, r⟩ := (unhide h7 hh); exact ⟨a, e, r.bel hb2⟩)), (fun hh => (by obtain ⟨a, c, e1, e2, e3, e4, r⟩ := (unhide h8 hh); exact ⟨a, c, e1, e2, e3, e4, r.bel hb2⟩)), (fun hh => (by obtain ⟨g, e, r⟩ := (unhide h12 hh); exact ⟨g, e, owns_below r hb2⟩))⟩ ?_
      clear ih hd hb hbb hK h1 h5 h7 h8 h12
      cases f1 <;> cases f7 <;> cases f8 <;> cases f12 <;> decide
    refine StepsW.cons (i := 7) (o := { dst := some 114, op := _, type := _, pos := _, after := _, guard := _ }) rfl ?_ ?_
    · as_aux_lemma =>
      rintro listed a w' ⟨f1, f5, f7, f8, f12, t21, t106, t108, t112, t114, t115, t116, t117, rfl, ha, hb, h1, h5, h7, h8, h12⟩ hun hd ih K' hK
      simp only [Act.put, List.setIfInBounds_toArray, List.set_cons_zero, List.set_cons_succ] at ha
      subst ha
      obtain rfl : f7 = false := hun
      replace h1 := hide h1
      replace h5 := hide h5
      replace h7 := hide h7
      replace h8 := hide h8
      replace h12 := hide h12
      go_simp
      go_at_call 89
      refine (c89 ps bo ps.length cap' _ rfl (by omega) ((unhide HP).bel (below_tr (unhide HB) (below_tr (unhide HBB) hb)))).mono ?_
      rintro e w2 ⟨rfl, ho, hb2⟩
      generalize (some (⟨w'.heap.size, 0, none⟩ : Addr)) = a2 at *
      have hbb := below_then hb hb2
      try go_wp2_with fail
      refine hK.out _ _ hbb (fun hS => ?_)
      try simp only [List.setIfInBounds_toArray, List.set_cons_zero, List.set_cons_succ]
      refine ih _ _ _ ⟨f1, f5, true, f8, f12, t21, t106, t108, t112, (.slice a2 ps.length ps.length), t115, t116, t117, rfl, (by simp only [Act.put, List.setIfInBounds_toArray, List.set_cons_zero, List.set_cons_succ]), hbb, (fun hh => (by obtain ⟨a, c, e, r⟩ := (unhide h1 hh); exact ⟨a, c, e, r.bel hb2⟩)), (fun hh => (unhide h5 hh)), (fun _ => ⟨a2, rfl, ho.mono hb.size⟩), (fun hh => (by obtain ⟨a, c, e1, e2, e3, e4, r⟩ := (unhide h8 hh); exact ⟨a, c, e1, e2, e3, e4, r.bel hb2⟩)), (fun hh => (by obtain ⟨g, e, r⟩ := (unhide h12 hh); exact ⟨g, e, owns_below r hb2⟩))⟩ ?_
      clear ih hd hb hbb hK h1 h5 h7 h8 h12
      cases f1 <;> cases f5 <;> cases f8 <;> cases f12 <;> decide
    refine StepsW.cons (i := 8) (o := { dst := some 115, op := _, type := _, pos := _, after := _, guard := _ }) rfl ?_ ?_
    · as_aux_lemma =>
      rintro listed a w' ⟨f1, f5, f7, f8, f12, t21, t106, t108, t112, t114, t115, t116, t117, rfl, ha, hb, h1, h5, h7, h8, h12⟩ hun hd ih K' hK
      simp only [Act.put, List.setIfInBounds_toArray, List.set_cons_zero, List.set_cons_succ] at ha
      subst ha
      obtain rfl : f8 = false := hun
      obtain rfl : f1 = true := by cases f1; exact Bool.noConfusion (show false = true from hd); rfl
      obtain ⟨a1, c1, rfl, r1⟩ := h1 rfl
      clear h1
      obtain rfl : f5 = true := by cases f5; exact Bool.noConfusion (show false = true from hd); rfl
      obtain rfl := h5 rfl
      clear h5
      obtain rfl : f7 = true := by cases f7; exact Bool.noConfusion (show false = true from hd); rfl
      obtain ⟨a2, rfl, r2⟩ := h7 rfl
      clear h7
      replace h8 := hide h8
      replace h12 := hide h12
      go_simp
      go_at_call 97
      refine (c97 s l o zs a1 zs.length c1 t who ra rc rd ps a2 ps.length ps.length _ rfl (by omega) (own_cap0' r1) (own_rowI r1) ht (unhide HFR) rfl (Nat.le_refl _) (by omega) (own_rowI r2)).mono ?_
      rintro e w2 ⟨v, rfl, ho, hb2⟩
      rw [unhide HGD] at ho
      rw [unhide HGH, unhide HGB]
      dsimp only
      obtain ⟨a3, c3, rfl⟩ := live_form ho.2
      have hbb := below_then hb hb2
      try go_wp2_with fail
      cases f12
      case false =>
        refine hK.out _ _ hbb (fun hS => ?_)
        try simp only [List.setIfInBounds_toArray, List.set_cons_zero, List.set_cons_succ]
        refine tkW 9 (some 106) (v := ?_) ?_ ?_
        rotate_left
        · intro w hSw
          first | (go_simp; done) | (go_simp; with_reducible rfl) | with_reducible rfl | rfl
        try simp only [Act.put, List.setIfInBounds_toArray, List.set_cons_zero, List.set_cons_succ]
        refine tkW 10 (some 116) (v := ?_) ?_ ?_
        rotate_left
        · intro w hSw
          first | (go_simp; done) | (go_simp; with_reducible rfl) | with_reducible rfl | rfl
        try simp only [Act.put, List.setIfInBounds_toArray, List.set_cons_zero, List.set_cons_succ]
        refine tkW 11 (some 117) (v := ?_) ?_ ?_
        rotate_left
        · intro w hSw
          first | (go_simp; done) | (go_simp; with_reducible rfl) | with_reducible rfl | rfl
        try simp only [Act.put, List.setIfInBounds_toArray, List.set_cons_zero, List.set_cons_succ]
        refine ih _ _ _ ⟨true, true, true, true, false, t21, (.tuple #[gatV S L O (.slice a3 ZS.length c3), .bool bb]), (gatV s l o (.slice a1 zs.length c1)), (rowV ra rc rd), (.slice a2 ps.length ps.length), (.tuple #[gatV S L O (.slice a3 ZS.length c3), .bool bb]), (gatV S L O (.slice a3 ZS.length c3)), (.bool bb), rfl, (by simp only [Act.put, List.setIfInBounds_toArray, List.set_cons_zero, List.set_cons_succ]), hbb, (fun _ => ⟨a1, c1, rfl, r1.bel hb2⟩), (fun _ => rfl), (fun _ => ⟨a2, rfl, r2.bel hb2⟩), (fun _ => ⟨a3, c3, rfl, rfl, rfl, rfl, ho.mono hb.size⟩), (fun hh => absurd hh (by simp))⟩ ?_
        clear ih hd hb hbb hK h8 h12
        decide
      case true =>
        refine hK.out _ _ hbb (fun hS => ?_)
        try simp only [List.setIfInBounds_toArray, List.set_cons_zero, List.set_cons_succ]
        refine tkW 9 (some 106) (v := ?_) ?_ ?_
        rotate_left
        · intro w hSw
          first | (go_simp; done) | (go_simp; with_reducible rfl) | with_reducible rfl | rfl
        try simp only [Act.put, List.setIfInBounds_toArray, List.set_cons_zero, List.set_cons_succ]
        refine tkW 10 (some 116) (v := ?_) ?_ ?_
        rotate_left
        · intro w hSw
          first | (go_simp; done) | (go_simp; with_reducible rfl) | with_reducible rfl | rfl
        try simp only [Act.put, List.setIfInBounds_toArray, List.set_cons_zero, List.set_cons_succ]
        refine tkW 11 (some 117) (v := ?_) ?_ ?_
        rotate_left
        · intro w hSw
          first | (go_simp; done) | (go_simp; with_reducible rfl) | with_reducible rfl | rfl
        try simp only [Act.put, List.setIfInBounds_toArray, List.set_cons_zero, List.set_cons_succ]
        refine ih _ _ _ ⟨true, true, true, true, true, t21, (.tuple #[gatV S L O (.slice a3 ZS.length c3), .bool bb]), (gatV s l o (.slice a1 zs.length c1)), (rowV ra rc rd), (.slice a2 ps.length ps.length), (.tuple #[gatV S L O (.slice a3 ZS.length c3), .bool bb]), (gatV S L O (.slice a3 ZS.length c3)), (.bool bb), rfl, (by simp only [Act.put, List.setIfInBounds_toArray, List.set_cons_zero, List.set_cons_succ]), hbb, (fun _ => ⟨a1, c1, rfl, r1.bel hb2⟩), (fun _ => rfl), (fun _ => ⟨a2, rfl, r2.bel hb2⟩), (fun _ => ⟨a3, c3, rfl, rfl, rfl, rfl, ho.mono hb.size⟩), (fun hh => (by obtain ⟨g, e, r⟩ := (unhide h12 rfl); exact ⟨g, e, owns_below r hb2⟩))⟩ ?_
        clear ih hd hb hbb hK h8 h12
        decide
    refine StepsW.cons (i := 12) (o := { dst := some 21, op := _, type := _, pos := _, after := _, guard := _ }) rfl ?_ ?_
    · as_aux_lemma =>
      rintro listed a w' ⟨f1, f5, f7, f8, f12, t21, t106, t108, t112, t114, t115, t116, t117, rfl, ha, hb, h1, h5, h7, h8, h12⟩ hun hd ih K' hK
      simp only [Act.put, List.setIfInBounds_toArray, List.set_cons_zero, List.set_cons_succ] at ha
      subst ha
      obtain rfl : f12 = false := hun
      replace h1 := hide h1
      replace h5 := hide h5
      replace h7 := hide h7
      replace h8 := hide h8
      replace h12 := hide h12
      go_simp
      have hb2 : Below w'.heap.size w' (w'.alloc (.cells #[.int .i64 0, .int .i64 0, .int .i64 0, .slice none 0 0] 63)) := below_a _
      have hnew : ∃ g, (Value.pointer (some ⟨w'.heap.size, 0, none⟩)) = .pointer (some ⟨g, 0, none⟩) ∧ (w'.alloc (.cells #[.int .i64 0, .int .i64 0, .int .i64 0, .slice none 0 0] 63)).ownsRow w13.heap.size 63 4 (.slice (some ⟨g, 0, none⟩) 1 1) 1 [.int .i64 0, .int .i64 0, .int .i64 0, .slice none 0 0] := ⟨_, rfl, World.ownsRow_lit w' #[.int .i64 0, .int .i64 0, .int .i64 0, .slice none 0 0] 1 hb.size (by decide) rfl⟩
      generalize (Value.pointer (some ⟨w'.heap.size, 0, none⟩)) = tn at *
      generalize (w'.alloc (.cells #[.int .i64 0, .int .i64 0, .int .i64 0, .slice none 0 0] 63)) = w2 at *
      have hbb := below_then hb hb2
      refine hK.out _ _ hbb (fun hS => ?_)
      try simp only [List.setIfInBounds_toArray, List.set_cons_zero, List.set_cons_succ]
      refine ih _ _ _ ⟨f1, f5, f7, f8, true, tn, t106, t108, t112, t114, t115, t116, t117, rfl, (by simp only [Act.put, List.setIfInBounds_toArray, List.set_cons_zero, List.set_cons_succ]), hbb, (fun hh => (by obtain ⟨a, c, e, r⟩ := (unhide h1 hh); exact ⟨a, c, e, r.bel hb2⟩)), (fun hh => (unhide h5 hh)), (fun hh => (by obtain ⟨a, e, r⟩ := (unhide h7 hh); exact ⟨a, e, r.bel hb2⟩)), (fun hh => (by obtain ⟨a, c, e1, e2, e3, e4, r⟩ := (unhide h8 hh); exact ⟨a, c, e1, e2, e3, e4, r.bel hb2⟩)), (fun _ => hnew)⟩ ?_
      clear ih hd hb hbb hK h1 h5 h7 h8 h12
      cases f1 <;> cases f5 <;> cases f7 <;> cases f8 <;> decide
    exact StepsW.nil
  rintro listed a w' ⟨f1, f5, f7, f8, f12, t21, t106, t108, t112, t114, t115, t116, t117, rfl, ha, hb, h1, h5, h7, h8, h12⟩ hall
  simp only [Act.put, List.setIfInBounds_toArray, List.set_cons_zero, List.set_cons_succ] at ha
  subst ha
  obtain rfl : f1 = true := hall 1 (by simp)
  obtain rfl : f5 = true := hall 5 (by simp)
  obtain rfl : f7 = true := hall 7 (by simp)
  obtain rfl : f8 = true := hall 8 (by simp)
  obtain rfl : f12 = true := hall 12 (by simp)
  obtain ⟨a1, c1, rfl, r1⟩ := h1 rfl
  obtain rfl := h5 rfl
  obtain ⟨a2, rfl, r2⟩ := h7 rfl
  obtain ⟨a3, c3, rfl, rfl, rfl, rfl, r3⟩ := h8 rfl
  obtain ⟨g4, rfl, r4⟩ := h12 rfl
  clear hall h1 h5 h7 h8 h12
  clear r1 r2
  have hg4 : w13.heap.size ≤ g4 := (r4.lt g4 rfl).1
  have hL2 := live_add2 (x := (3, 1, .slice a3 ZS.length c3, ZS.length, ZS.map (Value.int .i64))) (y := (63, 4, .slice (some ⟨g4, 0, none⟩) 1 1, 1, [.int .i64 0, .int .i64 0, .int .i64 0, .slice none 0 0])) (unhide HL) hb (unhide HBB).size r3.2 r4 (show (3 : Nat) ≠ 63 by decide)
  have q4 := boxRow (hL2.1 (63, 4, .slice (some ⟨g4, 0, none⟩) 1 1, 1, [.int .i64 0, .int .i64 0, .int .i64 0, .slice none 0 0]) (by simp))
  have y0 := q4.cell 0 rfl
  have y0f := q4.frozen 0 rfl
  have y1 := q4.cell 1 rfl
  have y1f := q4.frozen 1 rfl
  have y2 := q4.cell 2 rfl
  have y2f := q4.frozen 2 rfl
  have y3 := q4.cell 3 rfl
  have y3f := q4.frozen 3 rfl
  refine oneW 13 (o := { dst := none, op := _, type := _, pos := _, after := _, guard := _ }) (fun K hK => ?_)
  clear r3 r4 q4 hHeld
  go_simp
  have hL3 := (live_put (A := [(3, 1, .slice a3 ZS.length c3, ZS.length, ZS.map (Value.int .i64))]) (C := [(63, 4, .slice (some ⟨gG, 0, none⟩) 1 1, 1, [.int .i64 S, .int .i64 L, .int .i64 O, .slice aG ZS.length cG]), (63, 4, .slice (some ⟨w3.heap.size, 0, none⟩) 1 1, 1, [.int .i64 s, .int .i64 l, .int .i64 o, .slice aX zs.length cX]), (3, 1, .slice aW ZS.length cW, ZS.length, ZS.map (Value.int .i64)), (63, 4, .slice (some ⟨gW, 0, none⟩) 1 1, 1, [.int .i64 S, .int .i64 L, .int .i64 O, .slice aW ZS.length cW])]) (live_put (A := [(3, 1, .slice a3 ZS.length c3, ZS.length, ZS.map (Value.int .i64))]) (C := [(63, 4, .slice (some ⟨gG, 0, none⟩) 1 1, 1, [.int .i64 S, .int .i64 L, .int .i64 O, .slice aG ZS.length cG]), (63, 4, .slice (some ⟨w3.heap.size, 0, none⟩) 1 1, 1, [.int .i64 s, .int .i64 l, .int .i64 o, .slice aX zs.length cX]), (3, 1, .slice aW ZS.length cW, ZS.length, ZS.map (Value.int .i64)), (63, 4, .slice (some ⟨gW, 0, none⟩) 1 1, 1, [.int .i64 S, .int .i64 L, .int .i64 O, .slice aW ZS.length cW])]) (live_put (A := [(3, 1, .slice a3 ZS.length c3, ZS.length, ZS.map (Value.int .i64))]) (C := [(63, 4, .slice (some ⟨gG, 0, none⟩) 1 1, 1, [.int .i64 S, .int .i64 L, .int .i64 O, .slice aG ZS.length cG]), (63, 4, .slice (some ⟨w3.heap.size, 0, none⟩) 1 1, 1, [.int .i64 s, .int .i64 l, .int .i64 o, .slice aX zs.length cX]), (3, 1, .slice aW ZS.length cW, ZS.length, ZS.map (Value.int .i64)), (63, 4, .slice (some ⟨gW, 0, none⟩) 1 1, 1, [.int .i64 S, .int .i64 L, .int .i64 O, .slice aW ZS.length cW])]) (live_put (A := [(3, 1, .slice a3 ZS.length c3, ZS.length, ZS.map (Value.int .i64))]) (C := [(63, 4, .slice (some ⟨gG, 0, none⟩) 1 1, 1, [.int .i64 S, .int .i64 L, .int .i64 O, .slice aG ZS.length cG]), (63, 4, .slice (some ⟨w3.heap.size, 0, none⟩) 1 1, 1, [.int .i64 s, .int .i64 l, .int .i64 o, .slice aX zs.length cX]), (3, 1, .slice aW ZS.length cW, ZS.length, ZS.map (Value.int .i64)), (63, 4, .slice (some ⟨gW, 0, none⟩) 1 1, 1, [.int .i64 S, .int .i64 L, .int .i64 O, .slice aW ZS.length cW])]) hL2 0 (.int .i64 S)) 1 (.int .i64 L)) 2 (.int .i64 O)) 3 (.slice a3 ZS.length c3))
  have hbS := (below_sc (p := ⟨g4, 3, none⟩) (v := .slice a3 ZS.length c3) (below_sc (p := ⟨g4, 2, none⟩) (v := .int .i64 O) (below_sc (p := ⟨g4, 1, none⟩) (v := .int .i64 L) (below_sc (p := ⟨g4, 0, none⟩) (v := .int .i64 S) hb (by dsimp only; omega)) (by dsimp only; omega)) (by dsimp only; omega)) (by dsimp only; omega))
  refine hK.out _ _ hbS (fun hS3 => ?_)
  clear hK K hS3
  try simp only [List.setIfInBounds_toArray, List.set_cons_zero, List.set_cons_succ]
  replace HL := hide (show Live _ _ [(3, 1, .slice a3 ZS.length c3, ZS.length, ZS.map (Value.int .i64)), (63, 4, .slice (some ⟨g4, 0, none⟩) 1 1, 1, [.int .i64 S, .int .i64 L, .int .i64 O, .slice a3 ZS.length c3]), (63, 4, .slice (some ⟨gG, 0, none⟩) 1 1, 1, [.int .i64 S, .int .i64 L, .int .i64 O, .slice aG ZS.length cG]), (63, 4, .slice (some ⟨w3.heap.size, 0, none⟩) 1 1, 1, [.int .i64 s, .int .i64 l, .int .i64 o, .slice aX zs.length cX]), (3, 1, .slice aW ZS.length cW, ZS.length, ZS.map (Value.int .i64)), (63, 4, .slice (some ⟨gW, 0, none⟩) 1 1, 1, [.int .i64 S, .int .i64 L, .int .i64 O, .slice aW ZS.length cW])] from hL3)
  (try clear y0 y1 y2 y3 y0f y1f y2f y3f)
  replace HBB := hide (below_tr (unhide HBB) hbS)
  replace HX := hide ((unhide HX).bel hbS)
  replace HH := hide ((unhide HH).bel hbS)
  replace HQW := hide ((unhide HQW).bel hbS)
  replace HQX := hide ((unhide HQX).bel hbS)
  replace HQG := hide ((unhide HQG).bel hbS)
  replace HHG := hide ((unhide HHG).bel hbS)
  clear hb hL2 hL3 hg4
  refine tkW 14 (some 22) (v := ?_) ?_ ?_
  rotate_left
  · intro w hSw
    first | (go_simp; done) | (go_simp; with_reducible rfl) | with_reducible rfl | rfl
  try simp only [Act.put, List.setIfInBounds_toArray, List.set_cons_zero, List.set_cons_succ]
  clear hbS
  refine doneW ?_
  obtain ⟨aV, ea⟩ : ∃ q, q = a3 := ⟨_, rfl⟩
  obtain ⟨cV, ec⟩ : ∃ q, q = c3 := ⟨_, rfl⟩
  obtain ⟨gV, eg⟩ : ∃ q, q = g4 := ⟨_, rfl⟩
  subst ea ec eg
  generalize ((((w').setCell ⟨gV, 0, none⟩ (.int .i64 S)).setCell ⟨gV, 1, none⟩ (.int .i64 L)).setCell ⟨gV, 2, none⟩ (.int .i64 O)).setCell ⟨gV, 3, none⟩ (.slice aV ZS.length cV) = w14 at *
  have HQV := hide (boxRow ((unhide HL).1 (63, 4, .slice (some ⟨gV, 0, none⟩) 1 1, 1, [.int .i64 S, .int .i64 L, .int .i64 O, .slice aV ZS.length cV]) (by simp)))
  have x0 := (unhide HX).cell 0 rfl
  have x1 := (unhide HX).cell 1 rfl
  have x2 := (unhide HX).cell 2 rfl
  have x3 := (unhide HX).cell 3 rfl
  have z0 := (unhide HH).cell 0 rfl
  have z1 := (unhide HH).cell 1 rfl
  have z2 := (unhide HH).cell 2 rfl
  have u0 := (unhide HQW).cell 0 rfl
  have u1 := (unhide HQW).cell 1 rfl
  have u2 := (unhide HQW).cell 2 rfl
  have u3 := (unhide HQW).cell 3 rfl
  have q0 := (unhide HQX).cell 0 rfl
  have q1 := (unhide HQX).cell 1 rfl
  have q2 := (unhide HQX).cell 2 rfl
  have q3 := (unhide HQX).cell 3 rfl
  have p0 := (unhide HQG).cell 0 rfl
  have p1 := (unhide HQG).cell 1 rfl
  have p2 := (unhide HQG).cell 2 rfl
  have p3 := (unhide HQG).cell 3 rfl
  have v0 := (unhide HQV).cell 0 rfl
  have v1 := (unhide HQV).cell 1 rfl
  have v2 := (unhide HQV).cell 2 rfl
  have v3 := (unhide HQV).cell 3 rfl
  go_wp2_with fail
  refine (sameG S L O ZS aV aW ZS.length cV cW _ rfl hzl (own_rowI (show Own _ w1.heap.size (.slice aV ZS.length cV) ZS from ⟨unhide HFS, (unhide HL).1 (3, 1, .slice aV ZS.length cV, ZS.length, ZS.map (Value.int .i64)) (by simp)⟩)) (own_rowI (show Own _ w1.heap.size (.slice aW ZS.length cW) ZS from ⟨unhide HFS, (unhide HL).1 (3, 1, .slice aW ZS.length cW, ZS.length, ZS.map (Value.int .i64)) (by simp)⟩))).mono ?_
  rintro e w15 ⟨rfl, hb⟩
  (try clear x0 x1 x2 x3 z0 z1 z2 u0 u1 u2 u3 q0 q1 q2 q3 p0 p1 p2 p3 v0 v1 v2 v3)
  replace HBB := hide (below_tr (unhide HBB) hb)
  replace HX := hide ((unhide HX).bel hb)
  replace HH := hide ((unhide HH).bel hb)
  replace HQW := hide ((unhide HQW).bel hb)
  replace HQX := hide ((unhide HQX).bel hb)
  replace HQG := hide ((unhide HQG).bel hb)
  replace HHG := hide ((unhide HHG).bel hb)
  replace HL := hide ((unhide HL).bel hb)
  replace HQV := hide ((unhide HQV).bel hb)
  clear hb
  have x0 := (unhide HX).cell 0 rfl
  have x1 := (unhide HX).cell 1 rfl
  have x2 := (unhide HX).cell 2 rfl
  have x3 := (unhide HX).cell 3 rfl
  have z0 := (unhide HH).cell 0 rfl
  have z1 := (unhide HH).cell 1 rfl
  have z2 := (unhide HH).cell 2 rfl
  have u0 := (unhide HQW).cell 0 rfl
  have u1 := (unhide HQW).cell 1 rfl
  have u2 := (unhide HQW).cell 2 rfl
  have u3 := (unhide HQW).cell 3 rfl
  have q0 := (unhide HQX).cell 0 rfl
  have q1 := (unhide HQX).cell 1 rfl
  have q2 := (unhide HQX).cell 2 rfl
  have q3 := (unhide HQX).cell 3 rfl
  have p0 := (unhide HQG).cell 0 rfl
  have p1 := (unhide HQG).cell 1 rfl
  have p2 := (unhide HQG).cell 2 rfl
  have p3 := (unhide HQG).cell 3 rfl
  have v0 := (unhide HQV).cell 0 rfl
  have v1 := (unhide HQV).cell 1 rfl
  have v2 := (unhide HQV).cell 2 rfl
  have v3 := (unhide HQV).cell 3 rfl
  go_wp2_with fail
  refine (heldG S L O ZS aG ZS.length cG _ rfl hzl (unhide HHG)).mono ?_
  rintro e w16 ⟨rfl, hb⟩
  (try clear x0 x1 x2 x3 z0 z1 z2 u0 u1 u2 u3 q0 q1 q2 q3 p0 p1 p2 p3 v0 v1 v2 v3)
  replace HBB := hide (below_tr (unhide HBB) hb)
  replace HX := hide ((unhide HX).bel hb)
  replace HH := hide ((unhide HH).bel hb)
  replace HQW := hide ((unhide HQW).bel hb)
  replace HQX := hide ((unhide HQX).bel hb)
  replace HQG := hide ((unhide HQG).bel hb)
  replace HHG := hide ((unhide HHG).bel hb)
  replace HL := hide ((unhide HL).bel hb)
  replace HQV := hide ((unhide HQV).bel hb)
  clear hb
  have x0 := (unhide HX).cell 0 rfl
  have x1 := (unhide HX).cell 1 rfl
  have x2 := (unhide HX).cell 2 rfl
  have x3 := (unhide HX).cell 3 rfl
  have z0 := (unhide HH).cell 0 rfl
  have z1 := (unhide HH).cell 1 rfl
  have z2 := (unhide HH).cell 2 rfl
  have u0 := (unhide HQW).cell 0 rfl
  have u1 := (unhide HQW).cell 1 rfl
  have u2 := (unhide HQW).cell 2 rfl
  have u3 := (unhide HQW).cell 3 rfl
  have q0 := (unhide HQX).cell 0 rfl
  have q1 := (unhide HQX).cell 1 rfl
  have q2 := (unhide HQX).cell 2 rfl
  have q3 := (unhide HQX).cell 3 rfl
  have p0 := (unhide HQG).cell 0 rfl
  have p1 := (unhide HQG).cell 1 rfl
  have p2 := (unhide HQG).cell 2 rfl
  have p3 := (unhide HQG).cell 3 rfl
  have v0 := (unhide HQV).cell 0 rfl
  have v1 := (unhide HQV).cell 1 rfl
  have v2 := (unhide HQV).cell 2 rfl
  have v3 := (unhide HQV).cell 3 rfl
  go_wp2_with fail
  go_ret
  exact ⟨rfl, below_tr (unhide HB) (unhide HBB)⟩
end Go.Proofs.Ytmlbphmbffkdnaa
