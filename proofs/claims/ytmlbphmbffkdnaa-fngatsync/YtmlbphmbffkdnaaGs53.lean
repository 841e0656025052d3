/-
  Texts of the proof, what it needs of them: Lawshl, Lawgsy.
-/
import Derived.Test.YtmlbphmbffkdnaaGs21
import Derived.Test.YtmlbphmbffkdnaaGs33
import Derived.Test.YtmlbphmbffkdnaaGs34
import Derived.Test.YtmlbphmbffkdnaaGs44
import Derived.Test.YtmlbphmbffkdnaaGs46
import Derived.Test.YtmlbphmbffkdnaaGs48
import Derived.Test.YtmlbphmbffkdnaaGs50
import Derived.Test.YtmlbphmbffkdnaaGs51
import Derived.Test.YtmlbphmbffkdnaaGs52
namespace Go.Proofs.Ytmlbphmbffkdnaa
open Go.RowKit
set_option linter.unusedVariables false
set_option maxRecDepth 100000

theorem hf_true {a b c a' b' c' : Int} {ps : List Int} (h : hedFollows a b c a' b' c' ps = true) : hedOk a b c = true ∧ hedOk a' b' c' = true ∧ a ≤ a' := by
  unfold hedFollows at h
  simp only [Bool.and_eq_true, decide_eq_true_eq] at h
  exact ⟨h.1, h.2.1, h.2.2.1⟩

end Go.Proofs.Ytmlbphmbffkdnaa
namespace Go.Proofs.Ytmlbphmbffkdnaa
open Go.RowKit
set_option linter.unusedVariables false
set_option maxRecDepth 100000

theorem gat_mono {s l o s' l' o' : Int} {zs : List Int} (h : gatOk s l o zs = true) (h2 : hedOk s' l' o' = true) : gatOk s' l' o' zs = true := by
  unfold gatOk at h ⊢
  rw [Bool.and_eq_true] at h
  rw [h2, h.2]; rfl

set_option maxHeartbeats 8000000 in
theorem law10 (bs : List Int) (ao : Option Addr) (n cap : Nat) (w : World) (hn : bs.length = n) (hc : n ≤ cap) (hm : cap ≤ maxLen) (hB : Bytes w ao bs) :
    Calls Try.prog 10 #[.slice ao n cap] w (Holds w) := by
  have HM := hide hm
  unfold maxLen at hm
  have HBY := hide hB
  have HN := hide hn
  have HB := hide (Below.refl w.heap.size w)
  clear hB hn
  by_cases hbig : (1048576 : Int) < (n : Int)
  case pos =>
    go_enter Try.func10, Try.ntmps10
    go_wp2_with fail
    go_ret
    exact ⟨rfl, unhide HB⟩
  go_enter Try.func10, Try.ntmps10
  go_wp2_with fail
  refine (c54 bs ao n cap _ HN.out hc (unhide HM) (unhide HBY)).mono ?_
  rintro e u1 ⟨s, l, o, zs, ag, cg, s', l', o', ps, ap, np, capp, rfl, hzl, hcg, hzg, hrg, hq1, hq2, hq3, hrr, hb⟩
  replace HB := hide (below_tr (unhide HB) hb)
  clear HBY
  have HL := hide (hrg)
  have HP := hide (hrr)
  clear hb hrg hrr
  have HQN := hide hq1
  clear hq1
  replace HB := hide (below_al (o := .cells #[.int .i64 s, .int .i64 l, .int .i64 o, .slice ag zs.length cg] 63) (unhide HB))
  replace HL := hide ((unhide HL).bel (below_a (.cells #[.int .i64 s, .int .i64 l, .int .i64 o, .slice ag zs.length cg] 63)))
  replace HP := hide ((unhide HP).bel (below_a (.cells #[.int .i64 s, .int .i64 l, .int .i64 o, .slice ag zs.length cg] 63)))
  have HX := hide (box_new u1 [.int .i64 s, .int .i64 l, .int .i64 o, .slice ag zs.length cg] 63 (by simp [Value.oneCell']))
  have x0 := (unhide HX).cell 0 rfl
  have x1 := (unhide HX).cell 1 rfl
  have x2 := (unhide HX).cell 2 rfl
  have x3 := (unhide HX).cell 3 rfl
  (try clear x0 x1 x2 x3)
  replace HB := hide (below_al (o := .cells #[.int .i64 s', .int .i64 l', .int .i64 o'] 61) (unhide HB))
  replace HL := hide ((unhide HL).bel (below_a (.cells #[.int .i64 s', .int .i64 l', .int .i64 o'] 61)))
  replace HP := hide ((unhide HP).bel (below_a (.cells #[.int .i64 s', .int .i64 l', .int .i64 o'] 61)))
  replace HX := hide ((unhide HX).bel (below_a (.cells #[.int .i64 s', .int .i64 l', .int .i64 o'] 61)))
  have HH := hide (box_new (u1.alloc (.cells #[.int .i64 s, .int .i64 l, .int .i64 o, .slice ag zs.length cg] 63)) [.int .i64 s', .int .i64 l', .int .i64 o'] 61 (by simp [Value.oneCell']))
  (try simp only [World.size_alloc] at HH)
  have x0 := (unhide HX).cell 0 rfl
  have x1 := (unhide HX).cell 1 rfl
  have x2 := (unhide HX).cell 2 rfl
  have x3 := (unhide HX).cell 3 rfl
  have h0 := (unhide HH).cell 0 rfl
  have h1 := (unhide HH).cell 1 rfl
  have h2 := (unhide HH).cell 2 rfl
  go_wp2_with fail
  have hux := (unhide HX).lt
  have huh := (unhide HH).lt
  rcases hok : gatOk s l o zs with _ | _
  case false =>
    have HOK := hide hok
    have hgs := hide (gs_no (s2 := s') (l2 := l') (o2 := o') (ps := ps) hok)
    refine (c55 s l o zs ag zs.length cg s' l' o' ps ap np capp _ rfl (by omega) hzg (unhide HL) (unhide HQN) hq2 (by omega) (unhide HP)).mono ?_
    rintro e w2 ⟨v, rfl, ho, hb⟩
    rw [(unhide hgs).1, (unhide hgs).2.1]
    rw [(unhide hgs).2.2] at ho
    obtain ⟨ay, cy, rfl, hcy, hzy, hry, -⟩ := ho.any
    clear ho
    simp only [List.length_nil] at hcy ⊢
    (try clear x0 x1 x2 x3 h0 h1 h2)
    replace HB := hide (below_tr (unhide HB) hb)
    replace HL := hide ((unhide HL).bel hb)
    replace HP := hide ((unhide HP).bel hb)
    replace HX := hide ((unhide HX).bel hb)
    replace HH := hide ((unhide HH).bel hb)
    have HY := hide (hry)
    clear hb hry
    have x0 := (unhide HX).cell 0 rfl
    have x1 := (unhide HX).cell 1 rfl
    have x2 := (unhide HX).cell 2 rfl
    have x3 := (unhide HX).cell 3 rfl
    have h0 := (unhide HH).cell 0 rfl
    have h1 := (unhide HH).cell 1 rfl
    have h2 := (unhide HH).cell 2 rfl
    (try clear x0 x1 x2 x3 h0 h1 h2)
    replace HB := hide (below_al (o := .cells #[.int .i64 0, .int .i64 0, .int .i64 0, .slice ay 0 cy] 63) (unhide HB))
    replace HL := hide ((unhide HL).bel (below_a (.cells #[.int .i64 0, .int .i64 0, .int .i64 0, .slice ay 0 cy] 63)))
    replace HP := hide ((unhide HP).bel (below_a (.cells #[.int .i64 0, .int .i64 0, .int .i64 0, .slice ay 0 cy] 63)))
    replace HX := hide ((unhide HX).bel (below_a (.cells #[.int .i64 0, .int .i64 0, .int .i64 0, .slice ay 0 cy] 63)))
    replace HH := hide ((unhide HH).bel (below_a (.cells #[.int .i64 0, .int .i64 0, .int .i64 0, .slice ay 0 cy] 63)))
    replace HY := hide ((unhide HY).bel (below_a (.cells #[.int .i64 0, .int .i64 0, .int .i64 0, .slice ay 0 cy] 63)))
    have HV := hide (box_new w2 [.int .i64 0, .int .i64 0, .int .i64 0, .slice ay 0 cy] 63 (by simp [Value.oneCell']))
    have x0 := (unhide HX).cell 0 rfl
    have x1 := (unhide HX).cell 1 rfl
    have x2 := (unhide HX).cell 2 rfl
    have x3 := (unhide HX).cell 3 rfl
    have h0 := (unhide HH).cell 0 rfl
    have h1 := (unhide HH).cell 1 rfl
    have h2 := (unhide HH).cell 2 rfl
    have v0 := (unhide HV).cell 0 rfl
    have v1 := (unhide HV).cell 1 rfl
    have v2 := (unhide HV).cell 2 rfl
    have v3 := (unhide HV).cell 3 rfl
    go_wp2_with fail
    have hv9 := (unhide HV).lt
    refine (c56 s l o zs ag zs.length cg s' l' o' ps ap np capp _ rfl (by omega) hzg (unhide HL) (unhide HQN) hq2 (by omega) (unhide HP)).mono ?_
    rintro e w3 ⟨v, rfl, ho, hb⟩
    rw [(unhide hgs).1, (unhide hgs).2.1]
    rw [(unhide hgs).2.2] at ho
    obtain ⟨az, cz, rfl, hcz, hzz, hrz, -⟩ := ho.any
    clear ho
    simp only [List.length_nil] at hcz ⊢
    (try clear x0 x1 x2 x3 h0 h1 h2 v0 v1 v2 v3)
    replace HB := hide (below_tr (unhide HB) hb)
    replace HL := hide ((unhide HL).bel hb)
    replace HP := hide ((unhide HP).bel hb)
    replace HX := hide ((unhide HX).bel hb)
    replace HH := hide ((unhide HH).bel hb)
    replace HY := hide ((unhide HY).bel hb)
    replace HV := hide ((unhide HV).bel hb)
    have HW := hide (hrz)
    clear hb hrz
    have x0 := (unhide HX).cell 0 rfl
    have x1 := (unhide HX).cell 1 rfl
    have x2 := (unhide HX).cell 2 rfl
    have x3 := (unhide HX).cell 3 rfl
    have h0 := (unhide HH).cell 0 rfl
    have h1 := (unhide HH).cell 1 rfl
    have h2 := (unhide HH).cell 2 rfl
    have v0 := (unhide HV).cell 0 rfl
    have v1 := (unhide HV).cell 1 rfl
    have v2 := (unhide HV).cell 2 rfl
    have v3 := (unhide HV).cell 3 rfl
    (try clear x0 x1 x2 x3 h0 h1 h2 v0 v1 v2 v3)
    replace HB := hide (below_al (o := .cells #[.int .i64 0, .int .i64 0, .int .i64 0, .slice az 0 cz] 63) (unhide HB))
    replace HL := hide ((unhide HL).bel (below_a (.cells #[.int .i64 0, .int .i64 0, .int .i64 0, .slice az 0 cz] 63)))
    replace HP := hide ((unhide HP).bel (below_a (.cells #[.int .i64 0, .int .i64 0, .int .i64 0, .slice az 0 cz] 63)))
    replace HX := hide ((unhide HX).bel (below_a (.cells #[.int .i64 0, .int .i64 0, .int .i64 0, .slice az 0 cz] 63)))
    replace HH := hide ((unhide HH).bel (below_a (.cells #[.int .i64 0, .int .i64 0, .int .i64 0, .slice az 0 cz] 63)))
    replace HY := hide ((unhide HY).bel (below_a (.cells #[.int .i64 0, .int .i64 0, .int .i64 0, .slice az 0 cz] 63)))
    replace HV := hide ((unhide HV).bel (below_a (.cells #[.int .i64 0, .int .i64 0, .int .i64 0, .slice az 0 cz] 63)))
    replace HW := hide ((unhide HW).bel (below_a (.cells #[.int .i64 0, .int .i64 0, .int .i64 0, .slice az 0 cz] 63)))
    have HU := hide (box_new w3 [.int .i64 0, .int .i64 0, .int .i64 0, .slice az 0 cz] 63 (by simp [Value.oneCell']))
    have x0 := (unhide HX).cell 0 rfl
    have x1 := (unhide HX).cell 1 rfl
    have x2 := (unhide HX).cell 2 rfl
    have x3 := (unhide HX).cell 3 rfl
    have h0 := (unhide HH).cell 0 rfl
    have h1 := (unhide HH).cell 1 rfl
    have h2 := (unhide HH).cell 2 rfl
    have v0 := (unhide HV).cell 0 rfl
    have v1 := (unhide HV).cell 1 rfl
    have v2 := (unhide HV).cell 2 rfl
    have v3 := (unhide HV).cell 3 rfl
    have t0 := (unhide HU).cell 0 rfl
    have t1 := (unhide HU).cell 1 rfl
    have t2 := (unhide HU).cell 2 rfl
    have t3 := (unhide HU).cell 3 rfl
    go_wp2_with fail
    generalize w3.alloc (.cells #[.int .i64 0, .int .i64 0, .int .i64 0, .slice az 0 cz] 63) = W9 at *
    (try clear x0 x1 x2 x3 h0 h1 h2 v0 v1 v2 v3 t0 t1 t2 t3)
    refine wp_region_held_drew (S := fun w' => Below W9.heap.size W9 w') (by kernel_rfl) (below_drew W9) (fun hHeld => ?_)
    refine wpAnyH_take (i := 0) (oi := { dst := some 33, op := _, type := _, pos := _, after := _, guard := _ }) (v := ?_) rfl (by kernel_rfl) (by kernel_rfl) (by kernel_rfl) (fun _ _ _ h => h) (Or.inl ⟨by rfl, ?_⟩) (by assumption) ?_
    rotate_left
    · intro w hSw
      have hT := (unhide HX).below hSw; have x0 := hT.cell 0 rfl; have x1 := hT.cell 1 rfl; have x2 := hT.cell 2 rfl; have x3 := hT.cell 3 rfl; clear hT; have hT := (unhide HH).below hSw; have h0 := hT.cell 0 rfl; have h1 := hT.cell 1 rfl; have h2 := hT.cell 2 rfl; clear hT; have hT := (unhide HV).below hSw; have v0 := hT.cell 0 rfl; have v1 := hT.cell 1 rfl; have v2 := hT.cell 2 rfl; have v3 := hT.cell 3 rfl; clear hT; have hT := (unhide HU).below hSw; have t0 := hT.cell 0 rfl; have t1 := hT.cell 1 rfl; have t2 := hT.cell 2 rfl; have t3 := hT.cell 3 rfl; clear hT
      first | (go_simp; done) | (go_simp; with_reducible rfl) | with_reducible rfl | rfl
    try simp only [Act.put, List.setIfInBounds_toArray, List.set_cons_zero, List.set_cons_succ]
    refine wpAnyH_take (i := 1) (oi := { dst := some 34, op := _, type := _, pos := _, after := _, guard := _ }) (v := ?_) rfl (by kernel_rfl) (by kernel_rfl) (by kernel_rfl) (fun _ _ _ h => h) (Or.inl ⟨by rfl, ?_⟩) (by assumption) ?_
    rotate_left
    · intro w hSw
      have hT := (unhide HX).below hSw; have x0 := hT.cell 0 rfl; have x1 := hT.cell 1 rfl; have x2 := hT.cell 2 rfl; have x3 := hT.cell 3 rfl; clear hT; have hT := (unhide HH).below hSw; have h0 := hT.cell 0 rfl; have h1 := hT.cell 1 rfl; have h2 := hT.cell 2 rfl; clear hT; have hT := (unhide HV).below hSw; have v0 := hT.cell 0 rfl; have v1 := hT.cell 1 rfl; have v2 := hT.cell 2 rfl; have v3 := hT.cell 3 rfl; clear hT; have hT := (unhide HU).below hSw; have t0 := hT.cell 0 rfl; have t1 := hT.cell 1 rfl; have t2 := hT.cell 2 rfl; have t3 := hT.cell 3 rfl; clear hT
      first | (go_simp; done) | (go_simp; with_reducible rfl) | with_reducible rfl | rfl
    try simp only [Act.put, List.setIfInBounds_toArray, List.set_cons_zero, List.set_cons_succ]
    have HD := below_drew W9
    generalize W9.drew = V0 at *
    refine wpAnyH_ready (rs := [2]) (by kernel_rfl) (by simp) ?_
    refine AllReadyH.cons (o := { dst := some 35, op := _, type := _, pos := _, after := _, guard := _ }) rfl (fun K hK => ?_) AllReadyH.nil
    go_simp
    go_at_call 57
    refine (c57 0 0 0 ([] : List Int) ay (0) cy 0 0 0 ([] : List Int) az (0) cz _ rfl (by first | omega | decide) ((unhide HY).bel HD) rfl (by first | omega | decide) ((unhide HW).bel HD)).mono ?_
    rintro e V1 ⟨rfl, hb⟩
    replace HD := below_then HD hb
    clear hb
    rw [swG_self]
    try go_wp2_with fail
    refine hK.out _ _ HD (fun hHeld => ?_)
    clear hK K hHeld
    try simp only [Act.put, List.setIfInBounds_toArray, List.set_cons_zero, List.set_cons_succ]
    refine wpAnyH_take (i := 3) (oi := { dst := some 36, op := _, type := _, pos := _, after := _, guard := _ }) (v := ?_) rfl (by kernel_rfl) (by kernel_rfl) (by kernel_rfl) (fun _ _ _ h => h) (Or.inl ⟨by rfl, ?_⟩) (by assumption) ?_
    rotate_left
    · intro w hSw
      first | (go_simp; done) | (go_simp; with_reducible rfl) | with_reducible rfl | rfl
    try simp only [Act.put, List.setIfInBounds_toArray, List.set_cons_zero, List.set_cons_succ]
    refine wpAnyH_take (i := 4) (oi := { dst := some 37, op := _, type := _, pos := _, after := _, guard := _ }) (v := ?_) rfl (by kernel_rfl) (by kernel_rfl) (by kernel_rfl) (fun _ _ _ h => h) (Or.inl ⟨by rfl, ?_⟩) (by assumption) ?_
    rotate_left
    · intro w hSw
      first | (go_simp; done) | (go_simp; with_reducible rfl) | with_reducible rfl | rfl
    try simp only [Act.put, List.setIfInBounds_toArray, List.set_cons_zero, List.set_cons_succ]
    refine wpAnyH_take (i := 5) (oi := { dst := some 38, op := _, type := _, pos := _, after := _, guard := _ }) (v := ?_) rfl (by kernel_rfl) (by kernel_rfl) (by kernel_rfl) (fun _ _ _ h => h) (Or.inl ⟨by rfl, ?_⟩) (by assumption) ?_
    rotate_left
    · intro w hSw
      first | (go_simp; done) | (go_simp; with_reducible rfl) | with_reducible rfl | rfl
    try simp only [Act.put, List.setIfInBounds_toArray, List.set_cons_zero, List.set_cons_succ]
    refine wpAnyH_take (i := 6) (oi := { dst := some 39, op := _, type := _, pos := _, after := _, guard := _ }) (v := ?_) rfl (by kernel_rfl) (by kernel_rfl) (by kernel_rfl) (fun _ _ _ h => h) (Or.inl ⟨by rfl, ?_⟩) (by assumption) ?_
    rotate_left
    · intro w hSw
      first | (go_simp; done) | (go_simp; with_reducible rfl) | with_reducible rfl | rfl
    try simp only [Act.put, List.setIfInBounds_toArray, List.set_cons_zero, List.set_cons_succ]
    refine wpAnyH_take (i := 7) (oi := { dst := some 40, op := _, type := _, pos := _, after := _, guard := _ }) (v := ?_) rfl (by kernel_rfl) (by kernel_rfl) (by kernel_rfl) (fun _ _ _ h => h) (Or.inl ⟨by rfl, ?_⟩) (by assumption) ?_
    rotate_left
    · intro w hSw
      first | (go_simp; done) | (go_simp; with_reducible rfl) | with_reducible rfl | rfl
    try simp only [Act.put, List.setIfInBounds_toArray, List.set_cons_zero, List.set_cons_succ]
    refine wpAnyH_take (i := 8) (oi := { dst := some 41, op := _, type := _, pos := _, after := _, guard := _ }) (v := ?_) rfl (by kernel_rfl) (by kernel_rfl) (by kernel_rfl) (fun _ _ _ h => h) (Or.inl ⟨by rfl, ?_⟩) (by assumption) ?_
    rotate_left
    · intro w hSw
      first | (go_simp; done) | (go_simp; with_reducible rfl) | with_reducible rfl | rfl
    try simp only [Act.put, List.setIfInBounds_toArray, List.set_cons_zero, List.set_cons_succ]
    refine wpAnyH_take (i := 9) (oi := { dst := some 42, op := _, type := _, pos := _, after := _, guard := _ }) (v := ?_) rfl (by kernel_rfl) (by kernel_rfl) (by kernel_rfl) (fun _ _ _ h => h) (Or.inl ⟨by rfl, ?_⟩) (by assumption) ?_
    rotate_left
    · intro w hSw
      first | (go_simp; done) | (go_simp; with_reducible rfl) | with_reducible rfl | rfl
    try simp only [Act.put, List.setIfInBounds_toArray, List.set_cons_zero, List.set_cons_succ]
    refine wpAnyH_take (i := 10) (oi := { dst := some 43, op := _, type := _, pos := _, after := _, guard := _ }) (v := ?_) rfl (by kernel_rfl) (by kernel_rfl) (by kernel_rfl) (fun _ _ _ h => h) (Or.inl ⟨by rfl, ?_⟩) (by assumption) ?_
    rotate_left
    · intro w hSw
      have hT := (unhide HX).below hSw; have x0 := hT.cell 0 rfl; have x1 := hT.cell 1 rfl; have x2 := hT.cell 2 rfl; have x3 := hT.cell 3 rfl; clear hT; have hT := (unhide HH).below hSw; have h0 := hT.cell 0 rfl; have h1 := hT.cell 1 rfl; have h2 := hT.cell 2 rfl; clear hT; have hT := (unhide HV).below hSw; have v0 := hT.cell 0 rfl; have v1 := hT.cell 1 rfl; have v2 := hT.cell 2 rfl; have v3 := hT.cell 3 rfl; clear hT; have hT := (unhide HU).below hSw; have t0 := hT.cell 0 rfl; have t1 := hT.cell 1 rfl; have t2 := hT.cell 2 rfl; have t3 := hT.cell 3 rfl; clear hT
      first | (go_simp; done) | (go_simp; with_reducible rfl) | with_reducible rfl | rfl
    try simp only [Act.put, List.setIfInBounds_toArray, List.set_cons_zero, List.set_cons_succ]
    refine wpAnyH_take (i := 12) (oi := { dst := some 45, op := _, type := _, pos := _, after := _, guard := _ }) (v := ?_) rfl (by kernel_rfl) (by kernel_rfl) (by kernel_rfl) (fun _ _ _ h => h) (Or.inl ⟨by rfl, ?_⟩) (by assumption) ?_
    rotate_left
    · intro w hSw
      have hT := (unhide HX).below hSw; have x0 := hT.cell 0 rfl; have x1 := hT.cell 1 rfl; have x2 := hT.cell 2 rfl; have x3 := hT.cell 3 rfl; clear hT; have hT := (unhide HH).below hSw; have h0 := hT.cell 0 rfl; have h1 := hT.cell 1 rfl; have h2 := hT.cell 2 rfl; clear hT; have hT := (unhide HV).below hSw; have v0 := hT.cell 0 rfl; have v1 := hT.cell 1 rfl; have v2 := hT.cell 2 rfl; have v3 := hT.cell 3 rfl; clear hT; have hT := (unhide HU).below hSw; have t0 := hT.cell 0 rfl; have t1 := hT.cell 1 rfl; have t2 := hT.cell 2 rfl; have t3 := hT.cell 3 rfl; clear hT
      first | (go_simp; done) | (go_simp; with_reducible rfl) | with_reducible rfl | rfl
    try simp only [Act.put, List.setIfInBounds_toArray, List.set_cons_zero, List.set_cons_succ]
    refine wpAnyH_ready (rs := [11]) (by kernel_rfl) (by simp) ?_
    refine AllReadyH.cons (o := { dst := some 44, op := _, type := _, pos := _, after := _, guard := _ }) rfl (fun K hK => ?_) AllReadyH.nil
    go_simp
    go_at_call 58
    refine (c58 s l o zs ag zs.length cg _ rfl (by omega) ((unhide HL).bel HD)).mono ?_
    rintro e V2 ⟨rfl, hb⟩
    replace HD := below_then HD hb
    clear hb
    rw [unhide HOK]
    try go_wp2_with fail
    refine hK.out _ _ HD (fun hHeld => ?_)
    clear hK K hHeld
    try simp only [Act.put, List.setIfInBounds_toArray, List.set_cons_zero, List.set_cons_succ]
    refine wpAnyH_ready (rs := [13]) (by kernel_rfl) (by simp) ?_
    refine AllReadyH.cons (o := { dst := some 46, op := _, type := _, pos := _, after := _, guard := _ }) rfl (fun K hK => ?_) AllReadyH.nil
    go_simp
    go_at_call 59
    refine (c59 s l o zs ag zs.length cg _ rfl (by omega) ((unhide HL).bel HD)).mono ?_
    rintro e V3 ⟨rfl, hb⟩
    replace HD := below_then HD hb
    clear hb
    rw [unhide HOK]
    try go_wp2_with fail
    refine hK.out _ _ HD (fun hHeld => ?_)
    clear hK K hHeld
    try simp only [Act.put, List.setIfInBounds_toArray, List.set_cons_zero, List.set_cons_succ]
    refine wpAnyH_take (i := 14) (oi := { dst := some 47, op := _, type := _, pos := _, after := _, guard := _ }) (v := ?_) rfl (by kernel_rfl) (by kernel_rfl) (by kernel_rfl) (fun _ _ _ h => h) (Or.inl ⟨by rfl, ?_⟩) (by assumption) ?_
    rotate_left
    · intro w hSw
      first | (go_simp; done) | (go_simp; with_reducible rfl) | with_reducible rfl | rfl
    try simp only [Act.put, List.setIfInBounds_toArray, List.set_cons_zero, List.set_cons_succ]
    refine wpAnyH_take (i := 15) (oi := { dst := some 48, op := _, type := _, pos := _, after := _, guard := _ }) (v := ?_) rfl (by kernel_rfl) (by kernel_rfl) (by kernel_rfl) (fun _ _ _ h => h) (Or.inl ⟨by rfl, ?_⟩) (by assumption) ?_
    rotate_left
    · intro w hSw
      first | (go_simp; done) | (go_simp; with_reducible rfl) | with_reducible rfl | rfl
    try simp only [Act.put, List.setIfInBounds_toArray, List.set_cons_zero, List.set_cons_succ]
    refine wpAnyH_done (by kernel_rfl) ?_ _
    replace HB := hide (below_tr (unhide HB) HD)
    replace HL := hide ((unhide HL).bel HD)
    replace HP := hide ((unhide HP).bel HD)
    replace HX := hide ((unhide HX).bel HD)
    replace HH := hide ((unhide HH).bel HD)
    replace HY := hide ((unhide HY).bel HD)
    replace HV := hide ((unhide HV).bel HD)
    replace HW := hide ((unhide HW).bel HD)
    replace HU := hide ((unhide HU).bel HD)
    clear HD 
    have x0 := (unhide HX).cell 0 rfl
    have x1 := (unhide HX).cell 1 rfl
    have x2 := (unhide HX).cell 2 rfl
    have x3 := (unhide HX).cell 3 rfl
    have h0 := (unhide HH).cell 0 rfl
    have h1 := (unhide HH).cell 1 rfl
    have h2 := (unhide HH).cell 2 rfl
    have v0 := (unhide HV).cell 0 rfl
    have v1 := (unhide HV).cell 1 rfl
    have v2 := (unhide HV).cell 2 rfl
    have v3 := (unhide HV).cell 3 rfl
    have t0 := (unhide HU).cell 0 rfl
    have t1 := (unhide HU).cell 1 rfl
    have t2 := (unhide HU).cell 2 rfl
    have t3 := (unhide HU).cell 3 rfl
    go_wp2_with fail
    refine (c59 s l o zs ag zs.length cg _ rfl (by omega) (unhide HL)).mono ?_
    rintro e w10 ⟨rfl, hb⟩
    rw [unhide HOK]
    (try clear x0 x1 x2 x3 h0 h1 h2 v0 v1 v2 v3 t0 t1 t2 t3)
    replace HB := hide (below_tr (unhide HB) hb)
    replace HL := hide ((unhide HL).bel hb)
    replace HP := hide ((unhide HP).bel hb)
    replace HX := hide ((unhide HX).bel hb)
    replace HH := hide ((unhide HH).bel hb)
    replace HY := hide ((unhide HY).bel hb)
    replace HV := hide ((unhide HV).bel hb)
    replace HW := hide ((unhide HW).bel hb)
    replace HU := hide ((unhide HU).bel hb)
    clear hb
    have x0 := (unhide HX).cell 0 rfl
    have x1 := (unhide HX).cell 1 rfl
    have x2 := (unhide HX).cell 2 rfl
    have x3 := (unhide HX).cell 3 rfl
    have h0 := (unhide HH).cell 0 rfl
    have h1 := (unhide HH).cell 1 rfl
    have h2 := (unhide HH).cell 2 rfl
    have v0 := (unhide HV).cell 0 rfl
    have v1 := (unhide HV).cell 1 rfl
    have v2 := (unhide HV).cell 2 rfl
    have v3 := (unhide HV).cell 3 rfl
    have t0 := (unhide HU).cell 0 rfl
    have t1 := (unhide HU).cell 1 rfl
    have t2 := (unhide HU).cell 2 rfl
    have t3 := (unhide HU).cell 3 rfl
    go_wp2_with fail
    refine (c57 0 0 0 ([] : List Int) ay (0) cy 0 0 0 ([] : List Int) none (0) 0 _ rfl (by first | omega | decide) (unhide HY) rfl (by first | omega | decide) (Row.nil _ _)).mono ?_
    rintro e w11 ⟨rfl, hb⟩
    rw [swG_self]
    (try clear x0 x1 x2 x3 h0 h1 h2 v0 v1 v2 v3 t0 t1 t2 t3)
    replace HB := hide (below_tr (unhide HB) hb)
    replace HL := hide ((unhide HL).bel hb)
    replace HP := hide ((unhide HP).bel hb)
    replace HX := hide ((unhide HX).bel hb)
    replace HH := hide ((unhide HH).bel hb)
    replace HY := hide ((unhide HY).bel hb)
    replace HV := hide ((unhide HV).bel hb)
    replace HW := hide ((unhide HW).bel hb)
    replace HU := hide ((unhide HU).bel hb)
    clear hb
    have x0 := (unhide HX).cell 0 rfl
    have x1 := (unhide HX).cell 1 rfl
    have x2 := (unhide HX).cell 2 rfl
    have x3 := (unhide HX).cell 3 rfl
    have h0 := (unhide HH).cell 0 rfl
    have h1 := (unhide HH).cell 1 rfl
    have h2 := (unhide HH).cell 2 rfl
    have v0 := (unhide HV).cell 0 rfl
    have v1 := (unhide HV).cell 1 rfl
    have v2 := (unhide HV).cell 2 rfl
    have v3 := (unhide HV).cell 3 rfl
    have t0 := (unhide HU).cell 0 rfl
    have t1 := (unhide HU).cell 1 rfl
    have t2 := (unhide HU).cell 2 rfl
    have t3 := (unhide HU).cell 3 rfl
    go_wp2_with fail
    refine (c27 _).mono ?_
    rintro e w12 ⟨rfl, hww⟩
    have hww := hww.symm
    subst hww
    go_wp2_with fail
    go_ret
    exact ⟨rfl, unhide HB⟩
  have HOK := hide hok
  rcases hfo : hedFollows s l o s' l' o' ps with _ | _
  case false =>
    have HFO := hide hfo
    have hgs := hide (gs_stay hok hfo)
    refine (c55 s l o zs ag zs.length cg s' l' o' ps ap np capp _ rfl (by omega) hzg (unhide HL) (unhide HQN) hq2 (by omega) (unhide HP)).mono ?_
    rintro e w2 ⟨v, rfl, ho, hb⟩
    rw [(unhide hgs).1, (unhide hgs).2.1]
    rw [(unhide hgs).2.2] at ho
    obtain ⟨ay, cy, rfl, hcy, hzy, hry, -⟩ := ho.any
    clear ho
    dsimp only
    (try clear x0 x1 x2 x3 h0 h1 h2)
    replace HB := hide (below_tr (unhide HB) hb)
    replace HL := hide ((unhide HL).bel hb)
    replace HP := hide ((unhide HP).bel hb)
    replace HX := hide ((unhide HX).bel hb)
    replace HH := hide ((unhide HH).bel hb)
    have HY := hide (hry)
    clear hb hry
    have x0 := (unhide HX).cell 0 rfl
    have x1 := (unhide HX).cell 1 rfl
    have x2 := (unhide HX).cell 2 rfl
    have x3 := (unhide HX).cell 3 rfl
    have h0 := (unhide HH).cell 0 rfl
    have h1 := (unhide HH).cell 1 rfl
    have h2 := (unhide HH).cell 2 rfl
    (try clear x0 x1 x2 x3 h0 h1 h2)
    replace HB := hide (below_al (o := .cells #[.int .i64 s, .int .i64 l, .int .i64 o, .slice ay zs.length cy] 63) (unhide HB))
    replace HL := hide ((unhide HL).bel (below_a (.cells #[.int .i64 s, .int .i64 l, .int .i64 o, .slice ay zs.length cy] 63)))
    replace HP := hide ((unhide HP).bel (below_a (.cells #[.int .i64 s, .int .i64 l, .int .i64 o, .slice ay zs.length cy] 63)))
    replace HX := hide ((unhide HX).bel (below_a (.cells #[.int .i64 s, .int .i64 l, .int .i64 o, .slice ay zs.length cy] 63)))
    replace HH := hide ((unhide HH).bel (below_a (.cells #[.int .i64 s, .int .i64 l, .int .i64 o, .slice ay zs.length cy] 63)))
    replace HY := hide ((unhide HY).bel (below_a (.cells #[.int .i64 s, .int .i64 l, .int .i64 o, .slice ay zs.length cy] 63)))
    have HV := hide (box_new w2 [.int .i64 s, .int .i64 l, .int .i64 o, .slice ay zs.length cy] 63 (by simp [Value.oneCell']))
    have x0 := (unhide HX).cell 0 rfl
    have x1 := (unhide HX).cell 1 rfl
    have x2 := (unhide HX).cell 2 rfl
    have x3 := (unhide HX).cell 3 rfl
    have h0 := (unhide HH).cell 0 rfl
    have h1 := (unhide HH).cell 1 rfl
    have h2 := (unhide HH).cell 2 rfl
    have v0 := (unhide HV).cell 0 rfl
    have v1 := (unhide HV).cell 1 rfl
    have v2 := (unhide HV).cell 2 rfl
    have v3 := (unhide HV).cell 3 rfl
    go_wp2_with fail
    have hv9 := (unhide HV).lt
    refine (c56 s l o zs ag zs.length cg s' l' o' ps ap np capp _ rfl (by omega) hzg (unhide HL) (unhide HQN) hq2 (by omega) (unhide HP)).mono ?_
    rintro e w3 ⟨v, rfl, ho, hb⟩
    rw [(unhide hgs).1, (unhide hgs).2.1]
    rw [(unhide hgs).2.2] at ho
    obtain ⟨az, cz, rfl, hcz, hzz, hrz, -⟩ := ho.any
    clear ho
    dsimp only
    (try clear x0 x1 x2 x3 h0 h1 h2 v0 v1 v2 v3)
    replace HB := hide (below_tr (unhide HB) hb)
    replace HL := hide ((unhide HL).bel hb)
    replace HP := hide ((unhide HP).bel hb)
    replace HX := hide ((unhide HX).bel hb)
    replace HH := hide ((unhide HH).bel hb)
    replace HY := hide ((unhide HY).bel hb)
    replace HV := hide ((unhide HV).bel hb)
    have HW := hide (hrz)
    clear hb hrz
    have x0 := (unhide HX).cell 0 rfl
    have x1 := (unhide HX).cell 1 rfl
    have x2 := (unhide HX).cell 2 rfl
    have x3 := (unhide HX).cell 3 rfl
    have h0 := (unhide HH).cell 0 rfl
    have h1 := (unhide HH).cell 1 rfl
    have h2 := (unhide HH).cell 2 rfl
    have v0 := (unhide HV).cell 0 rfl
    have v1 := (unhide HV).cell 1 rfl
    have v2 := (unhide HV).cell 2 rfl
    have v3 := (unhide HV).cell 3 rfl
    (try clear x0 x1 x2 x3 h0 h1 h2 v0 v1 v2 v3)
    replace HB := hide (below_al (o := .cells #[.int .i64 s, .int .i64 l, .int .i64 o, .slice az zs.length cz] 63) (unhide HB))
    replace HL := hide ((unhide HL).bel (below_a (.cells #[.int .i64 s, .int .i64 l, .int .i64 o, .slice az zs.length cz] 63)))
    replace HP := hide ((unhide HP).bel (below_a (.cells #[.int .i64 s, .int .i64 l, .int .i64 o, .slice az zs.length cz] 63)))
    replace HX := hide ((unhide HX).bel (below_a (.cells #[.int .i64 s, .int .i64 l, .int .i64 o, .slice az zs.length cz] 63)))
    replace HH := hide ((unhide HH).bel (below_a (.cells #[.int .i64 s, .int .i64 l, .int .i64 o, .slice az zs.length cz] 63)))
    replace HY := hide ((unhide HY).bel (below_a (.cells #[.int .i64 s, .int .i64 l, .int .i64 o, .slice az zs.length cz] 63)))
    replace HV := hide ((unhide HV).bel (below_a (.cells #[.int .i64 s, .int .i64 l, .int .i64 o, .slice az zs.length cz] 63)))
    replace HW := hide ((unhide HW).bel (below_a (.cells #[.int .i64 s, .int .i64 l, .int .i64 o, .slice az zs.length cz] 63)))
    have HU := hide (box_new w3 [.int .i64 s, .int .i64 l, .int .i64 o, .slice az zs.length cz] 63 (by simp [Value.oneCell']))
    have x0 := (unhide HX).cell 0 rfl
    have x1 := (unhide HX).cell 1 rfl
    have x2 := (unhide HX).cell 2 rfl
    have x3 := (unhide HX).cell 3 rfl
    have h0 := (unhide HH).cell 0 rfl
    have h1 := (unhide HH).cell 1 rfl
    have h2 := (unhide HH).cell 2 rfl
    have v0 := (unhide HV).cell 0 rfl
    have v1 := (unhide HV).cell 1 rfl
    have v2 := (unhide HV).cell 2 rfl
    have v3 := (unhide HV).cell 3 rfl
    have t0 := (unhide HU).cell 0 rfl
    have t1 := (unhide HU).cell 1 rfl
    have t2 := (unhide HU).cell 2 rfl
    have t3 := (unhide HU).cell 3 rfl
    go_wp2_with fail
    generalize w3.alloc (.cells #[.int .i64 s, .int .i64 l, .int .i64 o, .slice az zs.length cz] 63) = W9 at *
    (try clear x0 x1 x2 x3 h0 h1 h2 v0 v1 v2 v3 t0 t1 t2 t3)
    refine wp_region_held_drew (S := fun w' => Below W9.heap.size W9 w') (by kernel_rfl) (below_drew W9) (fun hHeld => ?_)
    refine wpAnyH_take (i := 0) (oi := { dst := some 33, op := _, type := _, pos := _, after := _, guard := _ }) (v := ?_) rfl (by kernel_rfl) (by kernel_rfl) (by kernel_rfl) (fun _ _ _ h => h) (Or.inl ⟨by rfl, ?_⟩) (by assumption) ?_
    rotate_left
    · intro w hSw
      have hT := (unhide HX).below hSw; have x0 := hT.cell 0 rfl; have x1 := hT.cell 1 rfl; have x2 := hT.cell 2 rfl; have x3 := hT.cell 3 rfl; clear hT; have hT := (unhide HH).below hSw; have h0 := hT.cell 0 rfl; have h1 := hT.cell 1 rfl; have h2 := hT.cell 2 rfl; clear hT; have hT := (unhide HV).below hSw; have v0 := hT.cell 0 rfl; have v1 := hT.cell 1 rfl; have v2 := hT.cell 2 rfl; have v3 := hT.cell 3 rfl; clear hT; have hT := (unhide HU).below hSw; have t0 := hT.cell 0 rfl; have t1 := hT.cell 1 rfl; have t2 := hT.cell 2 rfl; have t3 := hT.cell 3 rfl; clear hT
      first | (go_simp; done) | (go_simp; with_reducible rfl) | with_reducible rfl | rfl
    try simp only [Act.put, List.setIfInBounds_toArray, List.set_cons_zero, List.set_cons_succ]
    refine wpAnyH_take (i := 1) (oi := { dst := some 34, op := _, type := _, pos := _, after := _, guard := _ }) (v := ?_) rfl (by kernel_rfl) (by kernel_rfl) (by kernel_rfl) (fun _ _ _ h => h) (Or.inl ⟨by rfl, ?_⟩) (by assumption) ?_
    rotate_left
    · intro w hSw
      have hT := (unhide HX).below hSw; have x0 := hT.cell 0 rfl; have x1 := hT.cell 1 rfl; have x2 := hT.cell 2 rfl; have x3 := hT.cell 3 rfl; clear hT; have hT := (unhide HH).below hSw; have h0 := hT.cell 0 rfl; have h1 := hT.cell 1 rfl; have h2 := hT.cell 2 rfl; clear hT; have hT := (unhide HV).below hSw; have v0 := hT.cell 0 rfl; have v1 := hT.cell 1 rfl; have v2 := hT.cell 2 rfl; have v3 := hT.cell 3 rfl; clear hT; have hT := (unhide HU).below hSw; have t0 := hT.cell 0 rfl; have t1 := hT.cell 1 rfl; have t2 := hT.cell 2 rfl; have t3 := hT.cell 3 rfl; clear hT
      first | (go_simp; done) | (go_simp; with_reducible rfl) | with_reducible rfl | rfl
    try simp only [Act.put, List.setIfInBounds_toArray, List.set_cons_zero, List.set_cons_succ]
    have HD := below_drew W9
    generalize W9.drew = V0 at *
    refine wpAnyH_ready (rs := [2]) (by kernel_rfl) (by simp) ?_
    refine AllReadyH.cons (o := { dst := some 35, op := _, type := _, pos := _, after := _, guard := _ }) rfl (fun K hK => ?_) AllReadyH.nil
    go_simp
    go_at_call 57
    refine (c57 s l o zs ay (zs.length) cy s l o zs az (zs.length) cz _ rfl (by first | omega | decide) ((unhide HY).bel HD) rfl (by first | omega | decide) ((unhide HW).bel HD)).mono ?_
    rintro e V1 ⟨rfl, hb⟩
    replace HD := below_then HD hb
    clear hb
    rw [swG_self]
    try go_wp2_with fail
    refine hK.out _ _ HD (fun hHeld => ?_)
    clear hK K hHeld
    try simp only [Act.put, List.setIfInBounds_toArray, List.set_cons_zero, List.set_cons_succ]
    refine wpAnyH_take (i := 3) (oi := { dst := some 36, op := _, type := _, pos := _, after := _, guard := _ }) (v := ?_) rfl (by kernel_rfl) (by kernel_rfl) (by kernel_rfl) (fun _ _ _ h => h) (Or.inl ⟨by rfl, ?_⟩) (by assumption) ?_
    rotate_left
    · intro w hSw
      first | (go_simp; done) | (go_simp; with_reducible rfl) | with_reducible rfl | rfl
    try simp only [Act.put, List.setIfInBounds_toArray, List.set_cons_zero, List.set_cons_succ]
    refine wpAnyH_take (i := 4) (oi := { dst := some 37, op := _, type := _, pos := _, after := _, guard := _ }) (v := ?_) rfl (by kernel_rfl) (by kernel_rfl) (by kernel_rfl) (fun _ _ _ h => h) (Or.inl ⟨by rfl, ?_⟩) (by assumption) ?_
    rotate_left
    · intro w hSw
      first | (go_simp; done) | (go_simp; with_reducible rfl) | with_reducible rfl | rfl
    try simp only [Act.put, List.setIfInBounds_toArray, List.set_cons_zero, List.set_cons_succ]
    refine wpAnyH_take (i := 5) (oi := { dst := some 38, op := _, type := _, pos := _, after := _, guard := _ }) (v := ?_) rfl (by kernel_rfl) (by kernel_rfl) (by kernel_rfl) (fun _ _ _ h => h) (Or.inl ⟨by rfl, ?_⟩) (by assumption) ?_
    rotate_left
    · intro w hSw
      first | (go_simp; done) | (go_simp; with_reducible rfl) | with_reducible rfl | rfl
    try simp only [Act.put, List.setIfInBounds_toArray, List.set_cons_zero, List.set_cons_succ]
    refine wpAnyH_take (i := 6) (oi := { dst := some 39, op := _, type := _, pos := _, after := _, guard := _ }) (v := ?_) rfl (by kernel_rfl) (by kernel_rfl) (by kernel_rfl) (fun _ _ _ h => h) (Or.inl ⟨by rfl, ?_⟩) (by assumption) ?_
    rotate_left
    · intro w hSw
      first | (go_simp; done) | (go_simp; with_reducible rfl) | with_reducible rfl | rfl
    try simp only [Act.put, List.setIfInBounds_toArray, List.set_cons_zero, List.set_cons_succ]
    refine wpAnyH_take (i := 7) (oi := { dst := some 40, op := _, type := _, pos := _, after := _, guard := _ }) (v := ?_) rfl (by kernel_rfl) (by kernel_rfl) (by kernel_rfl) (fun _ _ _ h => h) (Or.inl ⟨by rfl, ?_⟩) (by assumption) ?_
    rotate_left
    · intro w hSw
      first | (go_simp; done) | (go_simp; with_reducible rfl) | with_reducible rfl | rfl
    try simp only [Act.put, List.setIfInBounds_toArray, List.set_cons_zero, List.set_cons_succ]
    refine wpAnyH_take (i := 8) (oi := { dst := some 41, op := _, type := _, pos := _, after := _, guard := _ }) (v := ?_) rfl (by kernel_rfl) (by kernel_rfl) (by kernel_rfl) (fun _ _ _ h => h) (Or.inl ⟨by rfl, ?_⟩) (by assumption) ?_
    rotate_left
    · intro w hSw
      first | (go_simp; done) | (go_simp; with_reducible rfl) | with_reducible rfl | rfl
    try simp only [Act.put, List.setIfInBounds_toArray, List.set_cons_zero, List.set_cons_succ]
    refine wpAnyH_take (i := 9) (oi := { dst := some 42, op := _, type := _, pos := _, after := _, guard := _ }) (v := ?_) rfl (by kernel_rfl) (by kernel_rfl) (by kernel_rfl) (fun _ _ _ h => h) (Or.inl ⟨by rfl, ?_⟩) (by assumption) ?_
    rotate_left
    · intro w hSw
      first | (go_simp; done) | (go_simp; with_reducible rfl) | with_reducible rfl | rfl
    try simp only [Act.put, List.setIfInBounds_toArray, List.set_cons_zero, List.set_cons_succ]
    refine wpAnyH_take (i := 10) (oi := { dst := some 43, op := _, type := _, pos := _, after := _, guard := _ }) (v := ?_) rfl (by kernel_rfl) (by kernel_rfl) (by kernel_rfl) (fun _ _ _ h => h) (Or.inl ⟨by rfl, ?_⟩) (by assumption) ?_
    rotate_left
    · intro w hSw
      have hT := (unhide HX).below hSw; have x0 := hT.cell 0 rfl; have x1 := hT.cell 1 rfl; have x2 := hT.cell 2 rfl; have x3 := hT.cell 3 rfl; clear hT; have hT := (unhide HH).below hSw; have h0 := hT.cell 0 rfl; have h1 := hT.cell 1 rfl; have h2 := hT.cell 2 rfl; clear hT; have hT := (unhide HV).below hSw; have v0 := hT.cell 0 rfl; have v1 := hT.cell 1 rfl; have v2 := hT.cell 2 rfl; have v3 := hT.cell 3 rfl; clear hT; have hT := (unhide HU).below hSw; have t0 := hT.cell 0 rfl; have t1 := hT.cell 1 rfl; have t2 := hT.cell 2 rfl; have t3 := hT.cell 3 rfl; clear hT
      first | (go_simp; done) | (go_simp; with_reducible rfl) | with_reducible rfl | rfl
    try simp only [Act.put, List.setIfInBounds_toArray, List.set_cons_zero, List.set_cons_succ]
    refine wpAnyH_take (i := 12) (oi := { dst := some 45, op := _, type := _, pos := _, after := _, guard := _ }) (v := ?_) rfl (by kernel_rfl) (by kernel_rfl) (by kernel_rfl) (fun _ _ _ h => h) (Or.inl ⟨by rfl, ?_⟩) (by assumption) ?_
    rotate_left
    · intro w hSw
      have hT := (unhide HX).below hSw; have x0 := hT.cell 0 rfl; have x1 := hT.cell 1 rfl; have x2 := hT.cell 2 rfl; have x3 := hT.cell 3 rfl; clear hT; have hT := (unhide HH).below hSw; have h0 := hT.cell 0 rfl; have h1 := hT.cell 1 rfl; have h2 := hT.cell 2 rfl; clear hT; have hT := (unhide HV).below hSw; have v0 := hT.cell 0 rfl; have v1 := hT.cell 1 rfl; have v2 := hT.cell 2 rfl; have v3 := hT.cell 3 rfl; clear hT; have hT := (unhide HU).below hSw; have t0 := hT.cell 0 rfl; have t1 := hT.cell 1 rfl; have t2 := hT.cell 2 rfl; have t3 := hT.cell 3 rfl; clear hT
      first | (go_simp; done) | (go_simp; with_reducible rfl) | with_reducible rfl | rfl
    try simp only [Act.put, List.setIfInBounds_toArray, List.set_cons_zero, List.set_cons_succ]
    refine wpAnyH_ready (rs := [11]) (by kernel_rfl) (by simp) ?_
    refine AllReadyH.cons (o := { dst := some 44, op := _, type := _, pos := _, after := _, guard := _ }) rfl (fun K hK => ?_) AllReadyH.nil
    go_simp
    go_at_call 58
    refine (c58 s l o zs ag zs.length cg _ rfl (by omega) ((unhide HL).bel HD)).mono ?_
    rintro e V2 ⟨rfl, hb⟩
    replace HD := below_then HD hb
    clear hb
    rw [unhide HOK]
    try go_wp2_with fail
    refine hK.out _ _ HD (fun hHeld => ?_)
    clear hK K hHeld
    try simp only [Act.put, List.setIfInBounds_toArray, List.set_cons_zero, List.set_cons_succ]
    refine wpAnyH_ready (rs := [13]) (by kernel_rfl) (by simp) ?_
    refine AllReadyH.cons (o := { dst := some 46, op := _, type := _, pos := _, after := _, guard := _ }) rfl (fun K hK => ?_) AllReadyH.nil
    go_simp
    go_at_call 59
    refine (c59 s l o zs ag zs.length cg _ rfl (by omega) ((unhide HL).bel HD)).mono ?_
    rintro e V3 ⟨rfl, hb⟩
    replace HD := below_then HD hb
    clear hb
    rw [unhide HOK]
    try go_wp2_with fail
    refine hK.out _ _ HD (fun hHeld => ?_)
    clear hK K hHeld
    try simp only [Act.put, List.setIfInBounds_toArray, List.set_cons_zero, List.set_cons_succ]
    refine wpAnyH_take (i := 14) (oi := { dst := some 47, op := _, type := _, pos := _, after := _, guard := _ }) (v := ?_) rfl (by kernel_rfl) (by kernel_rfl) (by kernel_rfl) (fun _ _ _ h => h) (Or.inl ⟨by rfl, ?_⟩) (by assumption) ?_
    rotate_left
    · intro w hSw
      first | (go_simp; done) | (go_simp; with_reducible rfl) | with_reducible rfl | rfl
    try simp only [Act.put, List.setIfInBounds_toArray, List.set_cons_zero, List.set_cons_succ]
    refine wpAnyH_take (i := 15) (oi := { dst := some 48, op := _, type := _, pos := _, after := _, guard := _ }) (v := ?_) rfl (by kernel_rfl) (by kernel_rfl) (by kernel_rfl) (fun _ _ _ h => h) (Or.inl ⟨by rfl, ?_⟩) (by assumption) ?_
    rotate_left
    · intro w hSw
      first | (go_simp; done) | (go_simp; with_reducible rfl) | with_reducible rfl | rfl
    try simp only [Act.put, List.setIfInBounds_toArray, List.set_cons_zero, List.set_cons_succ]
    refine wpAnyH_done (by kernel_rfl) ?_ _
    replace HB := hide (below_tr (unhide HB) HD)
    replace HL := hide ((unhide HL).bel HD)
    replace HP := hide ((unhide HP).bel HD)
    replace HX := hide ((unhide HX).bel HD)
    replace HH := hide ((unhide HH).bel HD)
    replace HY := hide ((unhide HY).bel HD)
    replace HV := hide ((unhide HV).bel HD)
    replace HW := hide ((unhide HW).bel HD)
    replace HU := hide ((unhide HU).bel HD)
    clear HD 
    have x0 := (unhide HX).cell 0 rfl
    have x1 := (unhide HX).cell 1 rfl
    have x2 := (unhide HX).cell 2 rfl
    have x3 := (unhide HX).cell 3 rfl
    have h0 := (unhide HH).cell 0 rfl
    have h1 := (unhide HH).cell 1 rfl
    have h2 := (unhide HH).cell 2 rfl
    have v0 := (unhide HV).cell 0 rfl
    have v1 := (unhide HV).cell 1 rfl
    have v2 := (unhide HV).cell 2 rfl
    have v3 := (unhide HV).cell 3 rfl
    have t0 := (unhide HU).cell 0 rfl
    have t1 := (unhide HU).cell 1 rfl
    have t2 := (unhide HU).cell 2 rfl
    have t3 := (unhide HU).cell 3 rfl
    go_wp2_with fail
    refine (c59 s l o zs ag zs.length cg _ rfl (by omega) (unhide HL)).mono ?_
    rintro e w10 ⟨rfl, hb⟩
    rw [unhide HOK]
    (try clear x0 x1 x2 x3 h0 h1 h2 v0 v1 v2 v3 t0 t1 t2 t3)
    replace HB := hide (below_tr (unhide HB) hb)
    replace HL := hide ((unhide HL).bel hb)
    replace HP := hide ((unhide HP).bel hb)
    replace HX := hide ((unhide HX).bel hb)
    replace HH := hide ((unhide HH).bel hb)
    replace HY := hide ((unhide HY).bel hb)
    replace HV := hide ((unhide HV).bel hb)
    replace HW := hide ((unhide HW).bel hb)
    replace HU := hide ((unhide HU).bel hb)
    clear hb
    have x0 := (unhide HX).cell 0 rfl
    have x1 := (unhide HX).cell 1 rfl
    have x2 := (unhide HX).cell 2 rfl
    have x3 := (unhide HX).cell 3 rfl
    have h0 := (unhide HH).cell 0 rfl
    have h1 := (unhide HH).cell 1 rfl
    have h2 := (unhide HH).cell 2 rfl
    have v0 := (unhide HV).cell 0 rfl
    have v1 := (unhide HV).cell 1 rfl
    have v2 := (unhide HV).cell 2 rfl
    have v3 := (unhide HV).cell 3 rfl
    have t0 := (unhide HU).cell 0 rfl
    have t1 := (unhide HU).cell 1 rfl
    have t2 := (unhide HU).cell 2 rfl
    have t3 := (unhide HU).cell 3 rfl
    go_wp2_with fail
    refine (c57 s l o zs ay (zs.length) cy s l o zs ag (zs.length) cg _ rfl (by first | omega | decide) (unhide HY) rfl (by first | omega | decide) (unhide HL)).mono ?_
    rintro e w11 ⟨rfl, hb⟩
    rw [swG_self]
    (try clear x0 x1 x2 x3 h0 h1 h2 v0 v1 v2 v3 t0 t1 t2 t3)
    replace HB := hide (below_tr (unhide HB) hb)
    replace HL := hide ((unhide HL).bel hb)
    replace HP := hide ((unhide HP).bel hb)
    replace HX := hide ((unhide HX).bel hb)
    replace HH := hide ((unhide HH).bel hb)
    replace HY := hide ((unhide HY).bel hb)
    replace HV := hide ((unhide HV).bel hb)
    replace HW := hide ((unhide HW).bel hb)
    replace HU := hide ((unhide HU).bel hb)
    clear hb
    have x0 := (unhide HX).cell 0 rfl
    have x1 := (unhide HX).cell 1 rfl
    have x2 := (unhide HX).cell 2 rfl
    have x3 := (unhide HX).cell 3 rfl
    have h0 := (unhide HH).cell 0 rfl
    have h1 := (unhide HH).cell 1 rfl
    have h2 := (unhide HH).cell 2 rfl
    have v0 := (unhide HV).cell 0 rfl
    have v1 := (unhide HV).cell 1 rfl
    have v2 := (unhide HV).cell 2 rfl
    have v3 := (unhide HV).cell 3 rfl
    have t0 := (unhide HU).cell 0 rfl
    have t1 := (unhide HU).cell 1 rfl
    have t2 := (unhide HU).cell 2 rfl
    have t3 := (unhide HU).cell 3 rfl
    go_wp2_with fail
    refine (c60 s l o s' l' o' ps ap np capp _ (unhide HQN) hq2 (by omega) (unhide HP)).mono ?_
    rintro e w12 ⟨rfl, hb⟩
    rw [unhide HFO]
    (try clear x0 x1 x2 x3 h0 h1 h2 v0 v1 v2 v3 t0 t1 t2 t3)
    replace HB := hide (below_tr (unhide HB) hb)
    replace HL := hide ((unhide HL).bel hb)
    replace HP := hide ((unhide HP).bel hb)
    replace HX := hide ((unhide HX).bel hb)
    replace HH := hide ((unhide HH).bel hb)
    replace HY := hide ((unhide HY).bel hb)
    replace HV := hide ((unhide HV).bel hb)
    replace HW := hide ((unhide HW).bel hb)
    replace HU := hide ((unhide HU).bel hb)
    clear hb
    have x0 := (unhide HX).cell 0 rfl
    have x1 := (unhide HX).cell 1 rfl
    have x2 := (unhide HX).cell 2 rfl
    have x3 := (unhide HX).cell 3 rfl
    have h0 := (unhide HH).cell 0 rfl
    have h1 := (unhide HH).cell 1 rfl
    have h2 := (unhide HH).cell 2 rfl
    have v0 := (unhide HV).cell 0 rfl
    have v1 := (unhide HV).cell 1 rfl
    have v2 := (unhide HV).cell 2 rfl
    have v3 := (unhide HV).cell 3 rfl
    have t0 := (unhide HU).cell 0 rfl
    have t1 := (unhide HU).cell 1 rfl
    have t2 := (unhide HU).cell 2 rfl
    have t3 := (unhide HU).cell 3 rfl
    go_wp2_with fail
    go_ret
    exact ⟨rfl, unhide HB⟩
  have HFO := hide hfo
  obtain ⟨f1, f2, f3⟩ := hf_true hfo
  have HG2 := hide (gat_mono hok f2)
  clear f1 f2
  have hgs := hide (gs_go hok hfo)
  refine (c55 s l o zs ag zs.length cg s' l' o' ps ap np capp _ rfl (by omega) hzg (unhide HL) (unhide HQN) hq2 (by omega) (unhide HP)).mono ?_
  rintro e w2 ⟨v, rfl, ho, hb⟩
  rw [(unhide hgs).1, (unhide hgs).2.1]
  rw [(unhide hgs).2.2] at ho
  obtain ⟨ay, cy, rfl, hcy, hzy, hry, -⟩ := ho.any
  clear ho
  dsimp only
  (try clear x0 x1 x2 x3 h0 h1 h2)
  replace HB := hide (below_tr (unhide HB) hb)
  replace HL := hide ((unhide HL).bel hb)
  replace HP := hide ((unhide HP).bel hb)
  replace HX := hide ((unhide HX).bel hb)
  replace HH := hide ((unhide HH).bel hb)
  have HY := hide (hry)
  clear hb hry
  have x0 := (unhide HX).cell 0 rfl
  have x1 := (unhide HX).cell 1 rfl
  have x2 := (unhide HX).cell 2 rfl
  have x3 := (unhide HX).cell 3 rfl
  have h0 := (unhide HH).cell 0 rfl
  have h1 := (unhide HH).cell 1 rfl
  have h2 := (unhide HH).cell 2 rfl
  (try clear x0 x1 x2 x3 h0 h1 h2)
  replace HB := hide (below_al (o := .cells #[.int .i64 s', .int .i64 l', .int .i64 o', .slice ay zs.length cy] 63) (unhide HB))
  replace HL := hide ((unhide HL).bel (below_a (.cells #[.int .i64 s', .int .i64 l', .int .i64 o', .slice ay zs.length cy] 63)))
  replace HP := hide ((unhide HP).bel (below_a (.cells #[.int .i64 s', .int .i64 l', .int .i64 o', .slice ay zs.length cy] 63)))
  replace HX := hide ((unhide HX).bel (below_a (.cells #[.int .i64 s', .int .i64 l', .int .i64 o', .slice ay zs.length cy] 63)))
  replace HH := hide ((unhide HH).bel (below_a (.cells #[.int .i64 s', .int .i64 l', .int .i64 o', .slice ay zs.length cy] 63)))
  replace HY := hide ((unhide HY).bel (below_a (.cells #[.int .i64 s', .int .i64 l', .int .i64 o', .slice ay zs.length cy] 63)))
  have HV := hide (box_new w2 [.int .i64 s', .int .i64 l', .int .i64 o', .slice ay zs.length cy] 63 (by simp [Value.oneCell']))
  have x0 := (unhide HX).cell 0 rfl
  have x1 := (unhide HX).cell 1 rfl
  have x2 := (unhide HX).cell 2 rfl
  have x3 := (unhide HX).cell 3 rfl
  have h0 := (unhide HH).cell 0 rfl
  have h1 := (unhide HH).cell 1 rfl
  have h2 := (unhide HH).cell 2 rfl
  have v0 := (unhide HV).cell 0 rfl
  have v1 := (unhide HV).cell 1 rfl
  have v2 := (unhide HV).cell 2 rfl
  have v3 := (unhide HV).cell 3 rfl
  go_wp2_with fail
  have hv9 := (unhide HV).lt
  refine (c56 s l o zs ag zs.length cg s' l' o' ps ap np capp _ rfl (by omega) hzg (unhide HL) (unhide HQN) hq2 (by omega) (unhide HP)).mono ?_
  rintro e w3 ⟨v, rfl, ho, hb⟩
  rw [(unhide hgs).1, (unhide hgs).2.1]
  rw [(unhide hgs).2.2] at ho
  obtain ⟨az, cz, rfl, hcz, hzz, hrz, -⟩ := ho.any
  clear ho
  dsimp only
  (try clear x0 x1 x2 x3 h0 h1 h2 v0 v1 v2 v3)
  replace HB := hide (below_tr (unhide HB) hb)
  replace HL := hide ((unhide HL).bel hb)
  replace HP := hide ((unhide HP).bel hb)
  replace HX := hide ((unhide HX).bel hb)
  replace HH := hide ((unhide HH).bel hb)
  replace HY := hide ((unhide HY).bel hb)
  replace HV := hide ((unhide HV).bel hb)
  have HW := hide (hrz)
  clear hb hrz
  have x0 := (unhide HX).cell 0 rfl
  have x1 := (unhide HX).cell 1 rfl
  have x2 := (unhide HX).cell 2 rfl
  have x3 := (unhide HX).cell 3 rfl
  have h0 := (unhide HH).cell 0 rfl
  have h1 := (unhide HH).cell 1 rfl
  have h2 := (unhide HH).cell 2 rfl
  have v0 := (unhide HV).cell 0 rfl
  have v1 := (unhide HV).cell 1 rfl
  have v2 := (unhide HV).cell 2 rfl
  have v3 := (unhide HV).cell 3 rfl
  (try clear x0 x1 x2 x3 h0 h1 h2 v0 v1 v2 v3)
  replace HB := hide (below_al (o := .cells #[.int .i64 s', .int .i64 l', .int .i64 o', .slice az zs.length cz] 63) (unhide HB))
  replace HL := hide ((unhide HL).bel (below_a (.cells #[.int .i64 s', .int .i64 l', .int .i64 o', .slice az zs.length cz] 63)))
  replace HP := hide ((unhide HP).bel (below_a (.cells #[.int .i64 s', .int .i64 l', .int .i64 o', .slice az zs.length cz] 63)))
  replace HX := hide ((unhide HX).bel (below_a (.cells #[.int .i64 s', .int .i64 l', .int .i64 o', .slice az zs.length cz] 63)))
  replace HH := hide ((unhide HH).bel (below_a (.cells #[.int .i64 s', .int .i64 l', .int .i64 o', .slice az zs.length cz] 63)))
  replace HY := hide ((unhide HY).bel (below_a (.cells #[.int .i64 s', .int .i64 l', .int .i64 o', .slice az zs.length cz] 63)))
  replace HV := hide ((unhide HV).bel (below_a (.cells #[.int .i64 s', .int .i64 l', .int .i64 o', .slice az zs.length cz] 63)))
  replace HW := hide ((unhide HW).bel (below_a (.cells #[.int .i64 s', .int .i64 l', .int .i64 o', .slice az zs.length cz] 63)))
  have HU := hide (box_new w3 [.int .i64 s', .int .i64 l', .int .i64 o', .slice az zs.length cz] 63 (by simp [Value.oneCell']))
  have x0 := (unhide HX).cell 0 rfl
  have x1 := (unhide HX).cell 1 rfl
  have x2 := (unhide HX).cell 2 rfl
  have x3 := (unhide HX).cell 3 rfl
  have h0 := (unhide HH).cell 0 rfl
  have h1 := (unhide HH).cell 1 rfl
  have h2 := (unhide HH).cell 2 rfl
  have v0 := (unhide HV).cell 0 rfl
  have v1 := (unhide HV).cell 1 rfl
  have v2 := (unhide HV).cell 2 rfl
  have v3 := (unhide HV).cell 3 rfl
  have t0 := (unhide HU).cell 0 rfl
  have t1 := (unhide HU).cell 1 rfl
  have t2 := (unhide HU).cell 2 rfl
  have t3 := (unhide HU).cell 3 rfl
  go_wp2_with fail
  generalize w3.alloc (.cells #[.int .i64 s', .int .i64 l', .int .i64 o', .slice az zs.length cz] 63) = W9 at *
  (try clear x0 x1 x2 x3 h0 h1 h2 v0 v1 v2 v3 t0 t1 t2 t3)
  refine wp_region_held_drew (S := fun w' => Below W9.heap.size W9 w') (by kernel_rfl) (below_drew W9) (fun hHeld => ?_)
  refine wpAnyH_take (i := 0) (oi := { dst := some 33, op := _, type := _, pos := _, after := _, guard := _ }) (v := ?_) rfl (by kernel_rfl) (by kernel_rfl) (by kernel_rfl) (fun _ _ _ h => h) (Or.inl ⟨by rfl, ?_⟩) (by assumption) ?_
  rotate_left
  · intro w hSw
    have hT := (unhide HX).below hSw; have x0 := hT.cell 0 rfl; have x1 := hT.cell 1 rfl; have x2 := hT.cell 2 rfl; have x3 := hT.cell 3 rfl; clear hT; have hT := (unhide HH).below hSw; have h0 := hT.cell 0 rfl; have h1 := hT.cell 1 rfl; have h2 := hT.cell 2 rfl; clear hT; have hT := (unhide HV).below hSw; have v0 := hT.cell 0 rfl; have v1 := hT.cell 1 rfl; have v2 := hT.cell 2 rfl; have v3 := hT.cell 3 rfl; clear hT; have hT := (unhide HU).below hSw; have t0 := hT.cell 0 rfl; have t1 := hT.cell 1 rfl; have t2 := hT.cell 2 rfl; have t3 := hT.cell 3 rfl; clear hT
    first | (go_simp; done) | (go_simp; with_reducible rfl) | with_reducible rfl | rfl
  try simp only [Act.put, List.setIfInBounds_toArray, List.set_cons_zero, List.set_cons_succ]
  refine wpAnyH_take (i := 1) (oi := { dst := some 34, op := _, type := _, pos := _, after := _, guard := _ }) (v := ?_) rfl (by kernel_rfl) (by kernel_rfl) (by kernel_rfl) (fun _ _ _ h => h) (Or.inl ⟨by rfl, ?_⟩) (by assumption) ?_
  rotate_left
  · intro w hSw
    have hT := (unhide HX).below hSw; have x0 := hT.cell 0 rfl; have x1 := hT.cell 1 rfl; have x2 := hT.cell 2 rfl; have x3 := hT.cell 3 rfl; clear hT; have hT := (unhide HH).below hSw; have h0 := hT.cell 0 rfl; have h1 := hT.cell 1 rfl; have h2 := hT.cell 2 rfl; clear hT; have hT := (unhide HV).below hSw; have v0 := hT.cell 0 rfl; have v1 := hT.cell 1 rfl; have v2 := hT.cell 2 rfl; have v3 := hT.cell 3 rfl; clear hT; have hT := (unhide HU).below hSw; have t0 := hT.cell 0 rfl; have t1 := hT.cell 1 rfl; have t2 := hT.cell 2 rfl; have t3 := hT.cell 3 rfl; clear hT
    first | (go_simp; done) | (go_simp; with_reducible rfl) | with_reducible rfl | rfl
  try simp only [Act.put, List.setIfInBounds_toArray, List.set_cons_zero, List.set_cons_succ]
  have HD := below_drew W9
  generalize W9.drew = V0 at *
  refine wpAnyH_ready (rs := [2]) (by kernel_rfl) (by simp) ?_
  refine AllReadyH.cons (o := { dst := some 35, op := _, type := _, pos := _, after := _, guard := _ }) rfl (fun K hK => ?_) AllReadyH.nil
  go_simp
  go_at_call 57
  refine (c57 s' l' o' zs ay (zs.length) cy s' l' o' zs az (zs.length) cz _ rfl (by first | omega | decide) ((unhide HY).bel HD) rfl (by first | omega | decide) ((unhide HW).bel HD)).mono ?_
  rintro e V1 ⟨rfl, hb⟩
  replace HD := below_then HD hb
  clear hb
  rw [swG_self]
  try go_wp2_with fail
  refine hK.out _ _ HD (fun hHeld => ?_)
  clear hK K hHeld
  try simp only [Act.put, List.setIfInBounds_toArray, List.set_cons_zero, List.set_cons_succ]
  refine wpAnyH_take (i := 3) (oi := { dst := some 36, op := _, type := _, pos := _, after := _, guard := _ }) (v := ?_) rfl (by kernel_rfl) (by kernel_rfl) (by kernel_rfl) (fun _ _ _ h => h) (Or.inl ⟨by rfl, ?_⟩) (by assumption) ?_
  rotate_left
  · intro w hSw
    first | (go_simp; done) | (go_simp; with_reducible rfl) | with_reducible rfl | rfl
  try simp only [Act.put, List.setIfInBounds_toArray, List.set_cons_zero, List.set_cons_succ]
  refine wpAnyH_take (i := 4) (oi := { dst := some 37, op := _, type := _, pos := _, after := _, guard := _ }) (v := ?_) rfl (by kernel_rfl) (by kernel_rfl) (by kernel_rfl) (fun _ _ _ h => h) (Or.inl ⟨by rfl, ?_⟩) (by assumption) ?_
  rotate_left
  · intro w hSw
    first | (go_simp; done) | (go_simp; with_reducible rfl) | with_reducible rfl | rfl
  try simp only [Act.put, List.setIfInBounds_toArray, List.set_cons_zero, List.set_cons_succ]
  refine wpAnyH_take (i := 5) (oi := { dst := some 38, op := _, type := _, pos := _, after := _, guard := _ }) (v := ?_) rfl (by kernel_rfl) (by kernel_rfl) (by kernel_rfl) (fun _ _ _ h => h) (Or.inl ⟨by rfl, ?_⟩) (by assumption) ?_
  rotate_left
  · intro w hSw
    first | (go_simp; done) | (go_simp; with_reducible rfl) | with_reducible rfl | rfl
  try simp only [Act.put, List.setIfInBounds_toArray, List.set_cons_zero, List.set_cons_succ]
  refine wpAnyH_take (i := 6) (oi := { dst := some 39, op := _, type := _, pos := _, after := _, guard := _ }) (v := ?_) rfl (by kernel_rfl) (by kernel_rfl) (by kernel_rfl) (fun _ _ _ h => h) (Or.inl ⟨by rfl, ?_⟩) (by assumption) ?_
  rotate_left
  · intro w hSw
    first | (go_simp; done) | (go_simp; with_reducible rfl) | with_reducible rfl | rfl
  try simp only [Act.put, List.setIfInBounds_toArray, List.set_cons_zero, List.set_cons_succ]
  refine wpAnyH_take (i := 7) (oi := { dst := some 40, op := _, type := _, pos := _, after := _, guard := _ }) (v := ?_) rfl (by kernel_rfl) (by kernel_rfl) (by kernel_rfl) (fun _ _ _ h => h) (Or.inl ⟨by rfl, ?_⟩) (by assumption) ?_
  rotate_left
  · intro w hSw
    first | (go_simp; done) | (go_simp; with_reducible rfl) | with_reducible rfl | rfl
  try simp only [Act.put, List.setIfInBounds_toArray, List.set_cons_zero, List.set_cons_succ]
  refine wpAnyH_take (i := 8) (oi := { dst := some 41, op := _, type := _, pos := _, after := _, guard := _ }) (v := ?_) rfl (by kernel_rfl) (by kernel_rfl) (by kernel_rfl) (fun _ _ _ h => h) (Or.inl ⟨by rfl, ?_⟩) (by assumption) ?_
  rotate_left
  · intro w hSw
    first | (go_simp; done) | (go_simp; with_reducible rfl) | with_reducible rfl | rfl
  try simp only [Act.put, List.setIfInBounds_toArray, List.set_cons_zero, List.set_cons_succ]
  refine wpAnyH_take (i := 9) (oi := { dst := some 42, op := _, type := _, pos := _, after := _, guard := _ }) (v := ?_) rfl (by kernel_rfl) (by kernel_rfl) (by kernel_rfl) (fun _ _ _ h => h) (Or.inl ⟨by rfl, ?_⟩) (by assumption) ?_
  rotate_left
  · intro w hSw
    first | (go_simp; done) | (go_simp; with_reducible rfl) | with_reducible rfl | rfl
  try simp only [Act.put, List.setIfInBounds_toArray, List.set_cons_zero, List.set_cons_succ]
  refine wpAnyH_take (i := 10) (oi := { dst := some 43, op := _, type := _, pos := _, after := _, guard := _ }) (v := ?_) rfl (by kernel_rfl) (by kernel_rfl) (by kernel_rfl) (fun _ _ _ h => h) (Or.inl ⟨by rfl, ?_⟩) (by assumption) ?_
  rotate_left
  · intro w hSw
    have hT := (unhide HX).below hSw; have x0 := hT.cell 0 rfl; have x1 := hT.cell 1 rfl; have x2 := hT.cell 2 rfl; have x3 := hT.cell 3 rfl; clear hT; have hT := (unhide HH).below hSw; have h0 := hT.cell 0 rfl; have h1 := hT.cell 1 rfl; have h2 := hT.cell 2 rfl; clear hT; have hT := (unhide HV).below hSw; have v0 := hT.cell 0 rfl; have v1 := hT.cell 1 rfl; have v2 := hT.cell 2 rfl; have v3 := hT.cell 3 rfl; clear hT; have hT := (unhide HU).below hSw; have t0 := hT.cell 0 rfl; have t1 := hT.cell 1 rfl; have t2 := hT.cell 2 rfl; have t3 := hT.cell 3 rfl; clear hT
    first | (go_simp; done) | (go_simp; with_reducible rfl) | with_reducible rfl | rfl
  try simp only [Act.put, List.setIfInBounds_toArray, List.set_cons_zero, List.set_cons_succ]
  refine wpAnyH_take (i := 12) (oi := { dst := some 45, op := _, type := _, pos := _, after := _, guard := _ }) (v := ?_) rfl (by kernel_rfl) (by kernel_rfl) (by kernel_rfl) (fun _ _ _ h => h) (Or.inl ⟨by rfl, ?_⟩) (by assumption) ?_
  rotate_left
  · intro w hSw
    have hT := (unhide HX).below hSw; have x0 := hT.cell 0 rfl; have x1 := hT.cell 1 rfl; have x2 := hT.cell 2 rfl; have x3 := hT.cell 3 rfl; clear hT; have hT := (unhide HH).below hSw; have h0 := hT.cell 0 rfl; have h1 := hT.cell 1 rfl; have h2 := hT.cell 2 rfl; clear hT; have hT := (unhide HV).below hSw; have v0 := hT.cell 0 rfl; have v1 := hT.cell 1 rfl; have v2 := hT.cell 2 rfl; have v3 := hT.cell 3 rfl; clear hT; have hT := (unhide HU).below hSw; have t0 := hT.cell 0 rfl; have t1 := hT.cell 1 rfl; have t2 := hT.cell 2 rfl; have t3 := hT.cell 3 rfl; clear hT
    first | (go_simp; done) | (go_simp; with_reducible rfl) | with_reducible rfl | rfl
  try simp only [Act.put, List.setIfInBounds_toArray, List.set_cons_zero, List.set_cons_succ]
  refine wpAnyH_ready (rs := [11]) (by kernel_rfl) (by simp) ?_
  refine AllReadyH.cons (o := { dst := some 44, op := _, type := _, pos := _, after := _, guard := _ }) rfl (fun K hK => ?_) AllReadyH.nil
  go_simp
  go_at_call 58
  refine (c58 s l o zs ag zs.length cg _ rfl (by omega) ((unhide HL).bel HD)).mono ?_
  rintro e V2 ⟨rfl, hb⟩
  replace HD := below_then HD hb
  clear hb
  rw [unhide HOK]
  try go_wp2_with fail
  refine hK.out _ _ HD (fun hHeld => ?_)
  clear hK K hHeld
  try simp only [Act.put, List.setIfInBounds_toArray, List.set_cons_zero, List.set_cons_succ]
  refine wpAnyH_ready (rs := [13]) (by kernel_rfl) (by simp) ?_
  refine AllReadyH.cons (o := { dst := some 46, op := _, type := _, pos := _, after := _, guard := _ }) rfl (fun K hK => ?_) AllReadyH.nil
  go_simp
  go_at_call 59
  refine (c59 s l o zs ag zs.length cg _ rfl (by omega) ((unhide HL).bel HD)).mono ?_
  rintro e V3 ⟨rfl, hb⟩
  replace HD := below_then HD hb
  clear hb
  rw [unhide HOK]
  try go_wp2_with fail
  refine hK.out _ _ HD (fun hHeld => ?_)
  clear hK K hHeld
  try simp only [Act.put, List.setIfInBounds_toArray, List.set_cons_zero, List.set_cons_succ]
  refine wpAnyH_take (i := 14) (oi := { dst := some 47, op := _, type := _, pos := _, after := _, guard := _ }) (v := ?_) rfl (by kernel_rfl) (by kernel_rfl) (by kernel_rfl) (fun _ _ _ h => h) (Or.inl ⟨by rfl, ?_⟩) (by assumption) ?_
  rotate_left
  · intro w hSw
    first | (go_simp; done) | (go_simp; with_reducible rfl) | with_reducible rfl | rfl
  try simp only [Act.put, List.setIfInBounds_toArray, List.set_cons_zero, List.set_cons_succ]
  refine wpAnyH_take (i := 15) (oi := { dst := some 48, op := _, type := _, pos := _, after := _, guard := _ }) (v := ?_) rfl (by kernel_rfl) (by kernel_rfl) (by kernel_rfl) (fun _ _ _ h => h) (Or.inl ⟨by rfl, ?_⟩) (by assumption) ?_
  rotate_left
  · intro w hSw
    first | (go_simp; done) | (go_simp; with_reducible rfl) | with_reducible rfl | rfl
  try simp only [Act.put, List.setIfInBounds_toArray, List.set_cons_zero, List.set_cons_succ]
  refine wpAnyH_done (by kernel_rfl) ?_ _
  replace HB := hide (below_tr (unhide HB) HD)
  replace HL := hide ((unhide HL).bel HD)
  replace HP := hide ((unhide HP).bel HD)
  replace HX := hide ((unhide HX).bel HD)
  replace HH := hide ((unhide HH).bel HD)
  replace HY := hide ((unhide HY).bel HD)
  replace HV := hide ((unhide HV).bel HD)
  replace HW := hide ((unhide HW).bel HD)
  replace HU := hide ((unhide HU).bel HD)
  clear HD 
  have x0 := (unhide HX).cell 0 rfl
  have x1 := (unhide HX).cell 1 rfl
  have x2 := (unhide HX).cell 2 rfl
  have x3 := (unhide HX).cell 3 rfl
  have h0 := (unhide HH).cell 0 rfl
  have h1 := (unhide HH).cell 1 rfl
  have h2 := (unhide HH).cell 2 rfl
  have v0 := (unhide HV).cell 0 rfl
  have v1 := (unhide HV).cell 1 rfl
  have v2 := (unhide HV).cell 2 rfl
  have v3 := (unhide HV).cell 3 rfl
  have t0 := (unhide HU).cell 0 rfl
  have t1 := (unhide HU).cell 1 rfl
  have t2 := (unhide HU).cell 2 rfl
  have t3 := (unhide HU).cell 3 rfl
  go_wp2_with fail
  refine (c59 s l o zs ag zs.length cg _ rfl (by omega) (unhide HL)).mono ?_
  rintro e w10 ⟨rfl, hb⟩
  rw [unhide HOK]
  (try clear x0 x1 x2 x3 h0 h1 h2 v0 v1 v2 v3 t0 t1 t2 t3)
  replace HB := hide (below_tr (unhide HB) hb)
  replace HL := hide ((unhide HL).bel hb)
  replace HP := hide ((unhide HP).bel hb)
  replace HX := hide ((unhide HX).bel hb)
  replace HH := hide ((unhide HH).bel hb)
  replace HY := hide ((unhide HY).bel hb)
  replace HV := hide ((unhide HV).bel hb)
  replace HW := hide ((unhide HW).bel hb)
  replace HU := hide ((unhide HU).bel hb)
  clear hb
  have x0 := (unhide HX).cell 0 rfl
  have x1 := (unhide HX).cell 1 rfl
  have x2 := (unhide HX).cell 2 rfl
  have x3 := (unhide HX).cell 3 rfl
  have h0 := (unhide HH).cell 0 rfl
  have h1 := (unhide HH).cell 1 rfl
  have h2 := (unhide HH).cell 2 rfl
  have v0 := (unhide HV).cell 0 rfl
  have v1 := (unhide HV).cell 1 rfl
  have v2 := (unhide HV).cell 2 rfl
  have v3 := (unhide HV).cell 3 rfl
  have t0 := (unhide HU).cell 0 rfl
  have t1 := (unhide HU).cell 1 rfl
  have t2 := (unhide HU).cell 2 rfl
  have t3 := (unhide HU).cell 3 rfl
  go_wp2_with fail
  refine (dnB (c28 zs zs ay ag zs.length cy zs.length cg _ rfl rfl (by omega) (by omega) (unhide HY) (unhide HL))).mono ?_
  rintro e w11 ⟨rfl, hb⟩
  rw [decide_eq_true (rfl : zs = zs)]
  (try clear x0 x1 x2 x3 h0 h1 h2 v0 v1 v2 v3 t0 t1 t2 t3)
  replace HB := hide (below_tr (unhide HB) hb)
  replace HL := hide ((unhide HL).bel hb)
  replace HP := hide ((unhide HP).bel hb)
  replace HX := hide ((unhide HX).bel hb)
  replace HH := hide ((unhide HH).bel hb)
  replace HY := hide ((unhide HY).bel hb)
  replace HV := hide ((unhide HV).bel hb)
  replace HW := hide ((unhide HW).bel hb)
  replace HU := hide ((unhide HU).bel hb)
  clear hb
  have x0 := (unhide HX).cell 0 rfl
  have x1 := (unhide HX).cell 1 rfl
  have x2 := (unhide HX).cell 2 rfl
  have x3 := (unhide HX).cell 3 rfl
  have h0 := (unhide HH).cell 0 rfl
  have h1 := (unhide HH).cell 1 rfl
  have h2 := (unhide HH).cell 2 rfl
  have v0 := (unhide HV).cell 0 rfl
  have v1 := (unhide HV).cell 1 rfl
  have v2 := (unhide HV).cell 2 rfl
  have v3 := (unhide HV).cell 3 rfl
  have t0 := (unhide HU).cell 0 rfl
  have t1 := (unhide HU).cell 1 rfl
  have t2 := (unhide HU).cell 2 rfl
  have t3 := (unhide HU).cell 3 rfl
  go_wp2_with fail
  refine (c60 s l o s' l' o' ps ap np capp _ (unhide HQN) hq2 (by omega) (unhide HP)).mono ?_
  rintro e w12 ⟨rfl, hb⟩
  rw [unhide HFO]
  (try clear x0 x1 x2 x3 h0 h1 h2 v0 v1 v2 v3 t0 t1 t2 t3)
  replace HB := hide (below_tr (unhide HB) hb)
  replace HL := hide ((unhide HL).bel hb)
  replace HP := hide ((unhide HP).bel hb)
  replace HX := hide ((unhide HX).bel hb)
  replace HH := hide ((unhide HH).bel hb)
  replace HY := hide ((unhide HY).bel hb)
  replace HV := hide ((unhide HV).bel hb)
  replace HW := hide ((unhide HW).bel hb)
  replace HU := hide ((unhide HU).bel hb)
  clear hb
  have x0 := (unhide HX).cell 0 rfl
  have x1 := (unhide HX).cell 1 rfl
  have x2 := (unhide HX).cell 2 rfl
  have x3 := (unhide HX).cell 3 rfl
  have h0 := (unhide HH).cell 0 rfl
  have h1 := (unhide HH).cell 1 rfl
  have h2 := (unhide HH).cell 2 rfl
  have v0 := (unhide HV).cell 0 rfl
  have v1 := (unhide HV).cell 1 rfl
  have v2 := (unhide HV).cell 2 rfl
  have v3 := (unhide HV).cell 3 rfl
  have t0 := (unhide HU).cell 0 rfl
  have t1 := (unhide HU).cell 1 rfl
  have t2 := (unhide HU).cell 2 rfl
  have t3 := (unhide HU).cell 3 rfl
  go_wp2_with fail
  refine (c58 s' l' o' zs ay zs.length cy _ rfl (by omega) (unhide HY)).mono ?_
  rintro e w13 ⟨rfl, hb⟩
  rw [unhide HG2]
  (try clear x0 x1 x2 x3 h0 h1 h2 v0 v1 v2 v3 t0 t1 t2 t3)
  replace HB := hide (below_tr (unhide HB) hb)
  replace HL := hide ((unhide HL).bel hb)
  replace HP := hide ((unhide HP).bel hb)
  replace HX := hide ((unhide HX).bel hb)
  replace HH := hide ((unhide HH).bel hb)
  replace HY := hide ((unhide HY).bel hb)
  replace HV := hide ((unhide HV).bel hb)
  replace HW := hide ((unhide HW).bel hb)
  replace HU := hide ((unhide HU).bel hb)
  clear hb
  have x0 := (unhide HX).cell 0 rfl
  have x1 := (unhide HX).cell 1 rfl
  have x2 := (unhide HX).cell 2 rfl
  have x3 := (unhide HX).cell 3 rfl
  have h0 := (unhide HH).cell 0 rfl
  have h1 := (unhide HH).cell 1 rfl
  have h2 := (unhide HH).cell 2 rfl
  have v0 := (unhide HV).cell 0 rfl
  have v1 := (unhide HV).cell 1 rfl
  have v2 := (unhide HV).cell 2 rfl
  have v3 := (unhide HV).cell 3 rfl
  have t0 := (unhide HU).cell 0 rfl
  have t1 := (unhide HU).cell 1 rfl
  have t2 := (unhide HU).cell 2 rfl
  have t3 := (unhide HU).cell 3 rfl
  go_wp2_with fail
  go_ret
  exact ⟨rfl, unhide HB⟩
end Go.Proofs.Ytmlbphmbffkdnaa
