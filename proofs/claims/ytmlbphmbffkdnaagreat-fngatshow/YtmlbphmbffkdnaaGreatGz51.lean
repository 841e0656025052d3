/-
  Texts of the proof, what it needs of them: Lawgws.
-/
import Derived.Deep.DeepCutAuto
import Derived.Test.YtmlbphmbffkdnaaGreatGz45
import Derived.Test.YtmlbphmbffkdnaaGreatGz46
import Derived.Test.YtmlbphmbffkdnaaGreatGz50
namespace Go.Proofs.YtmlbphmbffkdnaaGreat
open Go.RowKit
set_option linter.unusedVariables false
set_option maxRecDepth 100000

theorem gatFrom_put {t : Int} (ht : 0 ≤ t ∧ t ≤ 7) : ∀ {zs : List Int} {l : Int}, gatFrom l zs = true → l < t → t ∉ zs → gatFrom l (putI t zs) = true
  | [], l, _, hl, _ => by simp [putI, gatFrom, ht, hl]
  | z :: r, l, h, hl, hn => by
    unfold gatFrom at h
    simp only [Bool.and_eq_true, decide_eq_true_eq] at h
    unfold putI
    split
    · rename_i hz
      unfold gatFrom
      simp only [Bool.and_eq_true, decide_eq_true_eq]
      refine ⟨ht, hl, ?_⟩
      unfold gatFrom
      simp only [Bool.and_eq_true, decide_eq_true_eq]
      exact ⟨h.1, hz, h.2.2⟩
    · rename_i hz
      have hne : z ≠ t := fun e => hn (by rw [e]; exact List.mem_cons_self)
      unfold gatFrom
      simp only [Bool.and_eq_true, decide_eq_true_eq]
      exact ⟨h.1, h.2.1, gatFrom_put ht h.2.2 (by omega) (fun h3 => hn (List.mem_cons_of_mem _ h3))⟩
theorem gatOk_put {s l o t : Int} {zs : List Int} (ht : 0 ≤ t ∧ t ≤ 7) (h : gatOk s l o zs = true) (hn : hasB zs t = false) : gatOk s l o (putI t zs) = true := by
  unfold gatOk at h ⊢
  rw [Bool.and_eq_true] at h
  rw [h.1, gatFrom_put ht h.2 (by omega) (fun h3 => by rw [hasB_iff.2 h3] at hn; cases hn)]; rfl
theorem has_put (t : Int) (zs : List Int) : hasB (putI t zs) t = true := hasB_iff.2 (putI_mem.2 (.inl rfl))
theorem sb_true {s l o : Int} {zs : List Int} {t who a c : Int} {d : Bool} {ps : List Int} (h : showB s l o zs t who a c d ps = true) : (1 ≤ who ∧ who ≤ 5) ∧ a = who ∧ d = false ∧ hasB zs t = false ∧ Tm.ownCheck o t (a, c, d) ps = true := by
  unfold showB at h
  simp only [Bool.and_eq_true, decide_eq_true_eq, Bool.not_eq_true'] at h
  exact ⟨h.2.1, h.2.2.1, h.2.2.2.1, h.2.2.2.2.1, h.2.2.2.2.2⟩

set_option maxHeartbeats 8000000 in
theorem law3 (bs : List Int) (ao : Option Addr) (n cap : Nat) (w : World) (hn : bs.length = n) (hc : n ≤ cap) (hm : cap ≤ maxLen) (hB : Bytes w ao bs) :
    Calls Tryz.prog 3 #[.slice ao n cap] w (Holds w) := by
  have HM := hide hm
  unfold maxLen at hm
  have HBY := hide hB
  have HN := hide hn
  have HB := hide (Below.refl w.heap.size w)
  clear hB hn
  by_cases hbig : (1048576 : Int) < (n : Int)
  case pos =>
    go_enter Tryz.func3, Tryz.ntmps3
    go_wp2_with fail
    go_ret
    exact ⟨rfl, unhide HB⟩
  go_enter Tryz.func3, Tryz.ntmps3
  go_wp2_with fail
  refine (c5 bs ao n cap _ HN.out hc (unhide HM) (unhide HBY)).mono ?_
  rintro e u1 ⟨s, l, o, zs, ag, cg, t, who, a, c, d, ps, ap, np, capp, rfl, hzl, hcg, hzg, hrg, htb, hft, hq1, hq2, hq3, hrr, hb⟩
  replace HB := hide (below_tr (unhide HB) hb)
  clear HBY
  have HL := hide (hrg)
  have HP := hide (hrr)
  clear hb hrg hrr
  have HQN := hide hq1
  have HFT := hide hft
  clear hq1 hft
  replace HB := hide (below_al (o := .cells #[.int .i64 s, .int .i64 l, .int .i64 o, .slice ag zs.length cg] 27) (unhide HB))
  replace HL := hide ((unhide HL).bel (below_a (.cells #[.int .i64 s, .int .i64 l, .int .i64 o, .slice ag zs.length cg] 27)))
  replace HP := hide ((unhide HP).bel (below_a (.cells #[.int .i64 s, .int .i64 l, .int .i64 o, .slice ag zs.length cg] 27)))
  have HX := hide (box_new u1 [.int .i64 s, .int .i64 l, .int .i64 o, .slice ag zs.length cg] 27 (by simp [Value.oneCell']))
  have x0 := (unhide HX).cell 0 rfl
  have x1 := (unhide HX).cell 1 rfl
  have x2 := (unhide HX).cell 2 rfl
  have x3 := (unhide HX).cell 3 rfl
  (try clear x0 x1 x2 x3)
  replace HB := hide (below_al (o := .cells #[.int .i64 a, .int .i64 c, .bool d] 29) (unhide HB))
  replace HL := hide ((unhide HL).bel (below_a (.cells #[.int .i64 a, .int .i64 c, .bool d] 29)))
  replace HP := hide ((unhide HP).bel (below_a (.cells #[.int .i64 a, .int .i64 c, .bool d] 29)))
  replace HX := hide ((unhide HX).bel (below_a (.cells #[.int .i64 a, .int .i64 c, .bool d] 29)))
  have HH := hide (box_new (u1.alloc (.cells #[.int .i64 s, .int .i64 l, .int .i64 o, .slice ag zs.length cg] 27)) [.int .i64 a, .int .i64 c, .bool d] 29 (by simp [Value.oneCell']))
  (try simp only [World.size_alloc] at HH)
  have x0 := (unhide HX).cell 0 rfl
  have x1 := (unhide HX).cell 1 rfl
  have x2 := (unhide HX).cell 2 rfl
  have x3 := (unhide HX).cell 3 rfl
  have h0 := (unhide HH).cell 0 rfl
  have h1 := (unhide HH).cell 1 rfl
  have h2 := (unhide HH).cell 2 rfl
  go_wp2_with fail
  have hux := (unhide HX).lt
  have huh := (unhide HH).lt
  rcases hok : gatOk s l o zs with _ | _
  case false =>
    have HOK := hide hok
    have hgs := hide (sh_no (t := t) (who := who) (a := a) (c := c) (d := d) (ps := ps) hok)
    refine (c6 s l o zs ag zs.length cg t who a c d ps ap np capp _ rfl (by omega) hzg (unhide HL) (by omega) (unhide HFT) (unhide HQN) hq2 (by omega) (unhide HP)).mono ?_
    rintro e w2 ⟨v, rfl, ho, hb⟩
    rw [(unhide hgs).1, (unhide hgs).2.1]
    rw [(unhide hgs).2.2] at ho
    obtain ⟨ay, cy, rfl, hcy, hzy, hry, -⟩ := ho.any
    clear ho
    simp only [List.length_nil] at hcy ⊢
    (try clear x0 x1 x2 x3 h0 h1 h2)
    replace HB := hide (below_tr (unhide HB) hb)
    replace HL := hide ((unhide HL).bel hb)
    replace HP := hide ((unhide HP).bel hb)
    replace HX := hide ((unhide HX).bel hb)
    replace HH := hide ((unhide HH).bel hb)
    have HY := hide (hry)
    clear hb hry
    have x0 := (unhide HX).cell 0 rfl
    have x1 := (unhide HX).cell 1 rfl
    have x2 := (unhide HX).cell 2 rfl
    have x3 := (unhide HX).cell 3 rfl
    have h0 := (unhide HH).cell 0 rfl
    have h1 := (unhide HH).cell 1 rfl
    have h2 := (unhide HH).cell 2 rfl
    (try clear x0 x1 x2 x3 h0 h1 h2)
    replace HB := hide (below_al (o := .cells #[.int .i64 0, .int .i64 0, .int .i64 0, .slice ay 0 cy] 27) (unhide HB))
    replace HL := hide ((unhide HL).bel (below_a (.cells #[.int .i64 0, .int .i64 0, .int .i64 0, .slice ay 0 cy] 27)))
    replace HP := hide ((unhide HP).bel (below_a (.cells #[.int .i64 0, .int .i64 0, .int .i64 0, .slice ay 0 cy] 27)))
    replace HX := hide ((unhide HX).bel (below_a (.cells #[.int .i64 0, .int .i64 0, .int .i64 0, .slice ay 0 cy] 27)))
    replace HH := hide ((unhide HH).bel (below_a (.cells #[.int .i64 0, .int .i64 0, .int .i64 0, .slice ay 0 cy] 27)))
    replace HY := hide ((unhide HY).bel (below_a (.cells #[.int .i64 0, .int .i64 0, .int .i64 0, .slice ay 0 cy] 27)))
    have HV := hide (box_new w2 [.int .i64 0, .int .i64 0, .int .i64 0, .slice ay 0 cy] 27 (by simp [Value.oneCell']))
    have x0 := (unhide HX).cell 0 rfl
    have x1 := (unhide HX).cell 1 rfl
    have x2 := (unhide HX).cell 2 rfl
    have x3 := (unhide HX).cell 3 rfl
    have h0 := (unhide HH).cell 0 rfl
    have h1 := (unhide HH).cell 1 rfl
    have h2 := (unhide HH).cell 2 rfl
    have v0 := (unhide HV).cell 0 rfl
    have v1 := (unhide HV).cell 1 rfl
    have v2 := (unhide HV).cell 2 rfl
    have v3 := (unhide HV).cell 3 rfl
    go_wp2_with fail
    refine (c7 s l o zs ag zs.length cg t who a c d ps ap np capp _ rfl (by omega) hzg (unhide HL) (by omega) (unhide HFT) (unhide HQN) hq2 (by omega) (unhide HP)).mono ?_
    rintro e w3 ⟨v, rfl, ho, hb⟩
    rw [(unhide hgs).1, (unhide hgs).2.1]
    rw [(unhide hgs).2.2] at ho
    obtain ⟨az, cz, rfl, hcz, hzz, hrz, -⟩ := ho.any
    clear ho
    simp only [List.length_nil] at hcz ⊢
    (try clear x0 x1 x2 x3 h0 h1 h2 v0 v1 v2 v3)
    replace HB := hide (below_tr (unhide HB) hb)
    replace HL := hide ((unhide HL).bel hb)
    replace HP := hide ((unhide HP).bel hb)
    replace HX := hide ((unhide HX).bel hb)
    replace HH := hide ((unhide HH).bel hb)
    replace HY := hide ((unhide HY).bel hb)
    replace HV := hide ((unhide HV).bel hb)
    have HW := hide (hrz)
    clear hb hrz
    have x0 := (unhide HX).cell 0 rfl
    have x1 := (unhide HX).cell 1 rfl
    have x2 := (unhide HX).cell 2 rfl
    have x3 := (unhide HX).cell 3 rfl
    have h0 := (unhide HH).cell 0 rfl
    have h1 := (unhide HH).cell 1 rfl
    have h2 := (unhide HH).cell 2 rfl
    have v0 := (unhide HV).cell 0 rfl
    have v1 := (unhide HV).cell 1 rfl
    have v2 := (unhide HV).cell 2 rfl
    have v3 := (unhide HV).cell 3 rfl
    (try clear x0 x1 x2 x3 h0 h1 h2 v0 v1 v2 v3)
    replace HB := hide (below_al (o := .cells #[.int .i64 0, .int .i64 0, .int .i64 0, .slice az 0 cz] 27) (unhide HB))
    replace HL := hide ((unhide HL).bel (below_a (.cells #[.int .i64 0, .int .i64 0, .int .i64 0, .slice az 0 cz] 27)))
    replace HP := hide ((unhide HP).bel (below_a (.cells #[.int .i64 0, .int .i64 0, .int .i64 0, .slice az 0 cz] 27)))
    replace HX := hide ((unhide HX).bel (below_a (.cells #[.int .i64 0, .int .i64 0, .int .i64 0, .slice az 0 cz] 27)))
    replace HH := hide ((unhide HH).bel (below_a (.cells #[.int .i64 0, .int .i64 0, .int .i64 0, .slice az 0 cz] 27)))
    replace HY := hide ((unhide HY).bel (below_a (.cells #[.int .i64 0, .int .i64 0, .int .i64 0, .slice az 0 cz] 27)))
    replace HV := hide ((unhide HV).bel (below_a (.cells #[.int .i64 0, .int .i64 0, .int .i64 0, .slice az 0 cz] 27)))
    replace HW := hide ((unhide HW).bel (below_a (.cells #[.int .i64 0, .int .i64 0, .int .i64 0, .slice az 0 cz] 27)))
    have HU := hide (box_new w3 [.int .i64 0, .int .i64 0, .int .i64 0, .slice az 0 cz] 27 (by simp [Value.oneCell']))
    have x0 := (unhide HX).cell 0 rfl
    have x1 := (unhide HX).cell 1 rfl
    have x2 := (unhide HX).cell 2 rfl
    have x3 := (unhide HX).cell 3 rfl
    have h0 := (unhide HH).cell 0 rfl
    have h1 := (unhide HH).cell 1 rfl
    have h2 := (unhide HH).cell 2 rfl
    have v0 := (unhide HV).cell 0 rfl
    have v1 := (unhide HV).cell 1 rfl
    have v2 := (unhide HV).cell 2 rfl
    have v3 := (unhide HV).cell 3 rfl
    have t0 := (unhide HU).cell 0 rfl
    have t1 := (unhide HU).cell 1 rfl
    have t2 := (unhide HU).cell 2 rfl
    have t3 := (unhide HU).cell 3 rfl
    go_wp2_with fail
    refine (c8 0 0 0 ([] : List Int) ay (0) cy 0 0 0 ([] : List Int) az (0) cz _ rfl (by first | omega | decide) (unhide HY) rfl (by first | omega | decide) (unhide HW)).mono ?_
    rintro e w4 ⟨rfl, hb⟩
    rw [swG_self]
    (try clear x0 x1 x2 x3 h0 h1 h2 v0 v1 v2 v3 t0 t1 t2 t3)
    replace HB := hide (below_tr (unhide HB) hb)
    replace HL := hide ((unhide HL).bel hb)
    replace HP := hide ((unhide HP).bel hb)
    replace HX := hide ((unhide HX).bel hb)
    replace HH := hide ((unhide HH).bel hb)
    replace HY := hide ((unhide HY).bel hb)
    replace HV := hide ((unhide HV).bel hb)
    clear HU HW
    clear hb
    have x0 := (unhide HX).cell 0 rfl
    have x1 := (unhide HX).cell 1 rfl
    have x2 := (unhide HX).cell 2 rfl
    have x3 := (unhide HX).cell 3 rfl
    have h0 := (unhide HH).cell 0 rfl
    have h1 := (unhide HH).cell 1 rfl
    have h2 := (unhide HH).cell 2 rfl
    have v0 := (unhide HV).cell 0 rfl
    have v1 := (unhide HV).cell 1 rfl
    have v2 := (unhide HV).cell 2 rfl
    have v3 := (unhide HV).cell 3 rfl
    go_wp2_with fail
    refine (c9 s l o zs ag zs.length cg _ rfl (by omega) (unhide HL)).mono ?_
    rintro e w5 ⟨rfl, hb⟩
    rw [unhide HOK]
    (try clear x0 x1 x2 x3 h0 h1 h2 v0 v1 v2 v3)
    replace HB := hide (below_tr (unhide HB) hb)
    replace HL := hide ((unhide HL).bel hb)
    replace HP := hide ((unhide HP).bel hb)
    replace HX := hide ((unhide HX).bel hb)
    replace HH := hide ((unhide HH).bel hb)
    replace HY := hide ((unhide HY).bel hb)
    replace HV := hide ((unhide HV).bel hb)
    clear hb
    have x0 := (unhide HX).cell 0 rfl
    have x1 := (unhide HX).cell 1 rfl
    have x2 := (unhide HX).cell 2 rfl
    have x3 := (unhide HX).cell 3 rfl
    have h0 := (unhide HH).cell 0 rfl
    have h1 := (unhide HH).cell 1 rfl
    have h2 := (unhide HH).cell 2 rfl
    have v0 := (unhide HV).cell 0 rfl
    have v1 := (unhide HV).cell 1 rfl
    have v2 := (unhide HV).cell 2 rfl
    have v3 := (unhide HV).cell 3 rfl
    go_wp2_with fail
    refine (c8 0 0 0 ([] : List Int) ay (0) cy 0 0 0 ([] : List Int) none (0) 0 _ rfl (by first | omega | decide) (unhide HY) rfl (by first | omega | decide) (Row.nil _ _)).mono ?_
    rintro e w6 ⟨rfl, hb⟩
    rw [swG_self]
    (try clear x0 x1 x2 x3 h0 h1 h2 v0 v1 v2 v3)
    replace HB := hide (below_tr (unhide HB) hb)
    replace HL := hide ((unhide HL).bel hb)
    replace HP := hide ((unhide HP).bel hb)
    replace HX := hide ((unhide HX).bel hb)
    replace HH := hide ((unhide HH).bel hb)
    replace HY := hide ((unhide HY).bel hb)
    replace HV := hide ((unhide HV).bel hb)
    clear hb
    have x0 := (unhide HX).cell 0 rfl
    have x1 := (unhide HX).cell 1 rfl
    have x2 := (unhide HX).cell 2 rfl
    have x3 := (unhide HX).cell 3 rfl
    have h0 := (unhide HH).cell 0 rfl
    have h1 := (unhide HH).cell 1 rfl
    have h2 := (unhide HH).cell 2 rfl
    have v0 := (unhide HV).cell 0 rfl
    have v1 := (unhide HV).cell 1 rfl
    have v2 := (unhide HV).cell 2 rfl
    have v3 := (unhide HV).cell 3 rfl
    go_wp2_with fail
    refine (c10 _).mono ?_
    rintro e w7 ⟨rfl, hww⟩
    have hww := hww.symm
    subst hww
    go_wp2_with fail
    go_ret
    exact ⟨rfl, unhide HB⟩
  have HOK := hide hok
  rcases hsb : showB s l o zs t who a c d ps with _ | _
  case false =>
    have HSB := hide hsb
    have hgs := hide (sh_not hok hsb)
    refine (c6 s l o zs ag zs.length cg t who a c d ps ap np capp _ rfl (by omega) hzg (unhide HL) (by omega) (unhide HFT) (unhide HQN) hq2 (by omega) (unhide HP)).mono ?_
    rintro e w2 ⟨v, rfl, ho, hb⟩
    rw [(unhide hgs).1, (unhide hgs).2.1]
    rw [(unhide hgs).2.2] at ho
    obtain ⟨ay, cy, rfl, hcy, hzy, hry, -⟩ := ho.any
    clear ho
    dsimp only
    (try clear x0 x1 x2 x3 h0 h1 h2)
    replace HB := hide (below_tr (unhide HB) hb)
    replace HL := hide ((unhide HL).bel hb)
    replace HP := hide ((unhide HP).bel hb)
    replace HX := hide ((unhide HX).bel hb)
    replace HH := hide ((unhide HH).bel hb)
    have HY := hide (hry)
    clear hb hry
    have x0 := (unhide HX).cell 0 rfl
    have x1 := (unhide HX).cell 1 rfl
    have x2 := (unhide HX).cell 2 rfl
    have x3 := (unhide HX).cell 3 rfl
    have h0 := (unhide HH).cell 0 rfl
    have h1 := (unhide HH).cell 1 rfl
    have h2 := (unhide HH).cell 2 rfl
    (try clear x0 x1 x2 x3 h0 h1 h2)
    replace HB := hide (below_al (o := .cells #[.int .i64 s, .int .i64 l, .int .i64 o, .slice ay zs.length cy] 27) (unhide HB))
    replace HL := hide ((unhide HL).bel (below_a (.cells #[.int .i64 s, .int .i64 l, .int .i64 o, .slice ay zs.length cy] 27)))
    replace HP := hide ((unhide HP).bel (below_a (.cells #[.int .i64 s, .int .i64 l, .int .i64 o, .slice ay zs.length cy] 27)))
    replace HX := hide ((unhide HX).bel (below_a (.cells #[.int .i64 s, .int .i64 l, .int .i64 o, .slice ay zs.length cy] 27)))
    replace HH := hide ((unhide HH).bel (below_a (.cells #[.int .i64 s, .int .i64 l, .int .i64 o, .slice ay zs.length cy] 27)))
    replace HY := hide ((unhide HY).bel (below_a (.cells #[.int .i64 s, .int .i64 l, .int .i64 o, .slice ay zs.length cy] 27)))
    have HV := hide (box_new w2 [.int .i64 s, .int .i64 l, .int .i64 o, .slice ay zs.length cy] 27 (by simp [Value.oneCell']))
    have x0 := (unhide HX).cell 0 rfl
    have x1 := (unhide HX).cell 1 rfl
    have x2 := (unhide HX).cell 2 rfl
    have x3 := (unhide HX).cell 3 rfl
    have h0 := (unhide HH).cell 0 rfl
    have h1 := (unhide HH).cell 1 rfl
    have h2 := (unhide HH).cell 2 rfl
    have v0 := (unhide HV).cell 0 rfl
    have v1 := (unhide HV).cell 1 rfl
    have v2 := (unhide HV).cell 2 rfl
    have v3 := (unhide HV).cell 3 rfl
    go_wp2_with fail
    refine (c7 s l o zs ag zs.length cg t who a c d ps ap np capp _ rfl (by omega) hzg (unhide HL) (by omega) (unhide HFT) (unhide HQN) hq2 (by omega) (unhide HP)).mono ?_
    rintro e w3 ⟨v, rfl, ho, hb⟩
    rw [(unhide hgs).1, (unhide hgs).2.1]
    rw [(unhide hgs).2.2] at ho
    obtain ⟨az, cz, rfl, hcz, hzz, hrz, -⟩ := ho.any
    clear ho
    dsimp only
    (try clear x0 x1 x2 x3 h0 h1 h2 v0 v1 v2 v3)
    replace HB := hide (below_tr (unhide HB) hb)
    replace HL := hide ((unhide HL).bel hb)
    replace HP := hide ((unhide HP).bel hb)
    replace HX := hide ((unhide HX).bel hb)
    replace HH := hide ((unhide HH).bel hb)
    replace HY := hide ((unhide HY).bel hb)
    replace HV := hide ((unhide HV).bel hb)
    have HW := hide (hrz)
    clear hb hrz
    have x0 := (unhide HX).cell 0 rfl
    have x1 := (unhide HX).cell 1 rfl
    have x2 := (unhide HX).cell 2 rfl
    have x3 := (unhide HX).cell 3 rfl
    have h0 := (unhide HH).cell 0 rfl
    have h1 := (unhide HH).cell 1 rfl
    have h2 := (unhide HH).cell 2 rfl
    have v0 := (unhide HV).cell 0 rfl
    have v1 := (unhide HV).cell 1 rfl
    have v2 := (unhide HV).cell 2 rfl
    have v3 := (unhide HV).cell 3 rfl
    (try clear x0 x1 x2 x3 h0 h1 h2 v0 v1 v2 v3)
    replace HB := hide (below_al (o := .cells #[.int .i64 s, .int .i64 l, .int .i64 o, .slice az zs.length cz] 27) (unhide HB))
    replace HL := hide ((unhide HL).bel (below_a (.cells #[.int .i64 s, .int .i64 l, .int .i64 o, .slice az zs.length cz] 27)))
    replace HP := hide ((unhide HP).bel (below_a (.cells #[.int .i64 s, .int .i64 l, .int .i64 o, .slice az zs.length cz] 27)))
    replace HX := hide ((unhide HX).bel (below_a (.cells #[.int .i64 s, .int .i64 l, .int .i64 o, .slice az zs.length cz] 27)))
    replace HH := hide ((unhide HH).bel (below_a (.cells #[.int .i64 s, .int .i64 l, .int .i64 o, .slice az zs.length cz] 27)))
    replace HY := hide ((unhide HY).bel (below_a (.cells #[.int .i64 s, .int .i64 l, .int .i64 o, .slice az zs.length cz] 27)))
    replace HV := hide ((unhide HV).bel (below_a (.cells #[.int .i64 s, .int .i64 l, .int .i64 o, .slice az zs.length cz] 27)))
    replace HW := hide ((unhide HW).bel (below_a (.cells #[.int .i64 s, .int .i64 l, .int .i64 o, .slice az zs.length cz] 27)))
    have HU := hide (box_new w3 [.int .i64 s, .int .i64 l, .int .i64 o, .slice az zs.length cz] 27 (by simp [Value.oneCell']))
    have x0 := (unhide HX).cell 0 rfl
    have x1 := (unhide HX).cell 1 rfl
    have x2 := (unhide HX).cell 2 rfl
    have x3 := (unhide HX).cell 3 rfl
    have h0 := (unhide HH).cell 0 rfl
    have h1 := (unhide HH).cell 1 rfl
    have h2 := (unhide HH).cell 2 rfl
    have v0 := (unhide HV).cell 0 rfl
    have v1 := (unhide HV).cell 1 rfl
    have v2 := (unhide HV).cell 2 rfl
    have v3 := (unhide HV).cell 3 rfl
    have t0 := (unhide HU).cell 0 rfl
    have t1 := (unhide HU).cell 1 rfl
    have t2 := (unhide HU).cell 2 rfl
    have t3 := (unhide HU).cell 3 rfl
    go_wp2_with fail
    refine (c8 s l o zs ay (zs.length) cy s l o zs az (zs.length) cz _ rfl (by first | omega | decide) (unhide HY) rfl (by first | omega | decide) (unhide HW)).mono ?_
    rintro e w4 ⟨rfl, hb⟩
    rw [swG_self]
    (try clear x0 x1 x2 x3 h0 h1 h2 v0 v1 v2 v3 t0 t1 t2 t3)
    replace HB := hide (below_tr (unhide HB) hb)
    replace HL := hide ((unhide HL).bel hb)
    replace HP := hide ((unhide HP).bel hb)
    replace HX := hide ((unhide HX).bel hb)
    replace HH := hide ((unhide HH).bel hb)
    replace HY := hide ((unhide HY).bel hb)
    replace HV := hide ((unhide HV).bel hb)
    clear HU HW
    clear hb
    have x0 := (unhide HX).cell 0 rfl
    have x1 := (unhide HX).cell 1 rfl
    have x2 := (unhide HX).cell 2 rfl
    have x3 := (unhide HX).cell 3 rfl
    have h0 := (unhide HH).cell 0 rfl
    have h1 := (unhide HH).cell 1 rfl
    have h2 := (unhide HH).cell 2 rfl
    have v0 := (unhide HV).cell 0 rfl
    have v1 := (unhide HV).cell 1 rfl
    have v2 := (unhide HV).cell 2 rfl
    have v3 := (unhide HV).cell 3 rfl
    go_wp2_with fail
    refine (c9 s l o zs ag zs.length cg _ rfl (by omega) (unhide HL)).mono ?_
    rintro e w5 ⟨rfl, hb⟩
    rw [unhide HOK]
    (try clear x0 x1 x2 x3 h0 h1 h2 v0 v1 v2 v3)
    replace HB := hide (below_tr (unhide HB) hb)
    replace HL := hide ((unhide HL).bel hb)
    replace HP := hide ((unhide HP).bel hb)
    replace HX := hide ((unhide HX).bel hb)
    replace HH := hide ((unhide HH).bel hb)
    replace HY := hide ((unhide HY).bel hb)
    replace HV := hide ((unhide HV).bel hb)
    clear hb
    have x0 := (unhide HX).cell 0 rfl
    have x1 := (unhide HX).cell 1 rfl
    have x2 := (unhide HX).cell 2 rfl
    have x3 := (unhide HX).cell 3 rfl
    have h0 := (unhide HH).cell 0 rfl
    have h1 := (unhide HH).cell 1 rfl
    have h2 := (unhide HH).cell 2 rfl
    have v0 := (unhide HV).cell 0 rfl
    have v1 := (unhide HV).cell 1 rfl
    have v2 := (unhide HV).cell 2 rfl
    have v3 := (unhide HV).cell 3 rfl
    obtain ⟨g8, hg8⟩ : ∃ g, Hid (g = w2.heap.size) := ⟨_, rfl⟩
    go_upto_region 10 with fail
    go_cut [12] (fun s12 wx => s12 = .bool false ∧ Below w.heap.size w wx ∧ Row wx ag zs ∧ Row wx ap ps ∧ Box wx u1.heap.size [.int .i64 s, .int .i64 l, .int .i64 o, .slice ag zs.length cg] ∧ Box wx (u1.heap.size + 1) [.int .i64 a, .int .i64 c, .bool d] ∧ Row wx ay (zs) ∧ Box wx w2.heap.size [.int .i64 s, .int .i64 l, .int .i64 o, .slice ay zs.length cy])
    case first =>
      by_cases e6 : 1 ≤ who
      case neg =>
        skip
        go_wp2_with fail
        (try clear x0 x1 x2 x3 h0 h1 h2 v0 v1 v2 v3)
        go_meet
        exact ⟨rfl, unhide HB, unhide HL, unhide HP, unhide HX, unhide HH, unhide HY, unhide HV⟩
      by_cases e7 : who ≤ 5
      case neg =>
        skip
        go_wp2_with fail
        (try clear x0 x1 x2 x3 h0 h1 h2 v0 v1 v2 v3)
        go_meet
        exact ⟨rfl, unhide HB, unhide HL, unhide HP, unhide HX, unhide HH, unhide HY, unhide HV⟩
      by_cases e2 : a = who
      case neg =>
        have d1 : (a == who) = false := by rw [beq_eq_false_iff_ne]; exact e2
        go_wp2_with fail
        (try clear x0 x1 x2 x3 h0 h1 h2 v0 v1 v2 v3)
        go_meet
        exact ⟨rfl, unhide HB, unhide HL, unhide HP, unhide HX, unhide HH, unhide HY, unhide HV⟩
      subst e2
      cases d
      case true =>
        go_wp2_with fail
        (try clear x0 x1 x2 x3 h0 h1 h2 v0 v1 v2 v3)
        go_meet
        exact ⟨rfl, unhide HB, unhide HL, unhide HP, unhide HX, unhide HH, unhide HY, unhide HV⟩
      go_wp2_with fail
      rcases e4 : hasB zs t with _ | _
      case true =>
        refine (c11 zs ag zs.length cg t _ rfl (by omega) (unhide HL)).mono ?_
        rintro e w6 ⟨rfl, hb⟩
        rw [e4]
        (try clear x0 x1 x2 x3 h0 h1 h2 v0 v1 v2 v3)
        replace HB := hide (below_tr (unhide HB) hb)
        replace HL := hide ((unhide HL).bel hb)
        replace HP := hide ((unhide HP).bel hb)
        replace HX := hide ((unhide HX).bel hb)
        replace HH := hide ((unhide HH).bel hb)
        replace HY := hide ((unhide HY).bel hb)
        replace HV := hide ((unhide HV).bel hb)
        clear hb
        have x0 := (unhide HX).cell 0 rfl
        have x1 := (unhide HX).cell 1 rfl
        have x2 := (unhide HX).cell 2 rfl
        have x3 := (unhide HX).cell 3 rfl
        have h0 := (unhide HH).cell 0 rfl
        have h1 := (unhide HH).cell 1 rfl
        have h2 := (unhide HH).cell 2 rfl
        have v0 := (unhide HV).cell 0 rfl
        have v1 := (unhide HV).cell 1 rfl
        have v2 := (unhide HV).cell 2 rfl
        have v3 := (unhide HV).cell 3 rfl
        go_wp2_with fail
        (try clear x0 x1 x2 x3 h0 h1 h2 v0 v1 v2 v3)
        go_meet
        exact ⟨rfl, unhide HB, unhide HL, unhide HP, unhide HX, unhide HH, unhide HY, unhide HV⟩
      refine (c11 zs ag zs.length cg t _ rfl (by omega) (unhide HL)).mono ?_
      rintro e w6 ⟨rfl, hb⟩
      rw [e4]
      (try clear x0 x1 x2 x3 h0 h1 h2 v0 v1 v2 v3)
      replace HB := hide (below_tr (unhide HB) hb)
      replace HL := hide ((unhide HL).bel hb)
      replace HP := hide ((unhide HP).bel hb)
      replace HX := hide ((unhide HX).bel hb)
      replace HH := hide ((unhide HH).bel hb)
      replace HY := hide ((unhide HY).bel hb)
      replace HV := hide ((unhide HV).bel hb)
      clear hb
      have x0 := (unhide HX).cell 0 rfl
      have x1 := (unhide HX).cell 1 rfl
      have x2 := (unhide HX).cell 2 rfl
      have x3 := (unhide HX).cell 3 rfl
      have h0 := (unhide HH).cell 0 rfl
      have h1 := (unhide HH).cell 1 rfl
      have h2 := (unhide HH).cell 2 rfl
      have v0 := (unhide HV).cell 0 rfl
      have v1 := (unhide HV).cell 1 rfl
      have v2 := (unhide HV).cell 2 rfl
      have v3 := (unhide HV).cell 3 rfl
      go_wp2_with fail
      rcases e5 : Tm.ownCheck o t (a, c, false) ps with _ | _
      case false =>
        refine (c12 ps o t a c false ap np capp _ (unhide HQN) hq2 (by omega) (unhide HFT) (unhide HP)).mono ?_
        rintro e w7 ⟨rfl, hb⟩
        rw [e5]
        (try clear x0 x1 x2 x3 h0 h1 h2 v0 v1 v2 v3)
        replace HB := hide (below_tr (unhide HB) hb)
        replace HL := hide ((unhide HL).bel hb)
        replace HP := hide ((unhide HP).bel hb)
        replace HX := hide ((unhide HX).bel hb)
        replace HH := hide ((unhide HH).bel hb)
        replace HY := hide ((unhide HY).bel hb)
        replace HV := hide ((unhide HV).bel hb)
        clear hb
        have x0 := (unhide HX).cell 0 rfl
        have x1 := (unhide HX).cell 1 rfl
        have x2 := (unhide HX).cell 2 rfl
        have x3 := (unhide HX).cell 3 rfl
        have h0 := (unhide HH).cell 0 rfl
        have h1 := (unhide HH).cell 1 rfl
        have h2 := (unhide HH).cell 2 rfl
        have v0 := (unhide HV).cell 0 rfl
        have v1 := (unhide HV).cell 1 rfl
        have v2 := (unhide HV).cell 2 rfl
        have v3 := (unhide HV).cell 3 rfl
        go_wp2_with fail
        (try clear x0 x1 x2 x3 h0 h1 h2 v0 v1 v2 v3)
        go_meet
        exact ⟨rfl, unhide HB, unhide HL, unhide HP, unhide HX, unhide HH, unhide HY, unhide HV⟩
      exact absurd (sb_6 (unhide HOK) (decide_eq_true ⟨e6, e7⟩) (decide_eq_true rfl) rfl e4 e5) (by rw [unhide HSB]; exact Bool.false_ne_true)
    (try clear x0 x1 x2 x3 h0 h1 h2 v0 v1 v2 v3)
    case rest =>
      obtain ⟨rfl, fHB, fHL, fHP, fHX, fHH, fHY, fHV⟩ := hcut
      obtain ⟨W5, hWc⟩ : ∃ x, x = wc := ⟨_, rfl⟩
      subst hWc
      clear HB HL HP HX HH HY HV
      have HB := hide fHB
      have HL := hide fHL
      have HP := hide fHP
      have HX := hide fHX
      have HH := hide fHH
      have HY := hide fHY
      have HV := hide fHV
      clear fHB fHL fHP fHX fHH fHY fHV
      have x0 := (unhide HX).cell 0 rfl
      have x1 := (unhide HX).cell 1 rfl
      have x2 := (unhide HX).cell 2 rfl
      have x3 := (unhide HX).cell 3 rfl
      have h0 := (unhide HH).cell 0 rfl
      have h1 := (unhide HH).cell 1 rfl
      have h2 := (unhide HH).cell 2 rfl
      have v0 := (unhide HV).cell 0 rfl
      have v1 := (unhide HV).cell 1 rfl
      have v2 := (unhide HV).cell 2 rfl
      have v3 := (unhide HV).cell 3 rfl
      go_wp2_with fail
      refine (c8 s l o zs ay (zs.length) cy s l o zs ag (zs.length) cg _ rfl (by first | omega | decide) (unhide HY) rfl (by first | omega | decide) (unhide HL)).mono ?_
      rintro e w41 ⟨rfl, hb⟩
      rw [swG_self]
      (try clear x0 x1 x2 x3 h0 h1 h2 v0 v1 v2 v3)
      replace HB := hide (below_tr (unhide HB) hb)
      replace HL := hide ((unhide HL).bel hb)
      replace HP := hide ((unhide HP).bel hb)
      replace HX := hide ((unhide HX).bel hb)
      replace HH := hide ((unhide HH).bel hb)
      replace HY := hide ((unhide HY).bel hb)
      replace HV := hide ((unhide HV).bel hb)
      clear hb
      have x0 := (unhide HX).cell 0 rfl
      have x1 := (unhide HX).cell 1 rfl
      have x2 := (unhide HX).cell 2 rfl
      have x3 := (unhide HX).cell 3 rfl
      have h0 := (unhide HH).cell 0 rfl
      have h1 := (unhide HH).cell 1 rfl
      have h2 := (unhide HH).cell 2 rfl
      have v0 := (unhide HV).cell 0 rfl
      have v1 := (unhide HV).cell 1 rfl
      have v2 := (unhide HV).cell 2 rfl
      have v3 := (unhide HV).cell 3 rfl
      go_wp2_with fail
      go_ret
      exact ⟨rfl, unhide HB⟩
  have HSB := hide hsb
  have hlp2 : (putI t zs).length ≤ 1048576 := by rw [putI_len]; omega
  have hgs := hide (sh_go hok hsb)
  refine (c6 s l o zs ag zs.length cg t who a c d ps ap np capp _ rfl (by omega) hzg (unhide HL) (by omega) (unhide HFT) (unhide HQN) hq2 (by omega) (unhide HP)).mono ?_
  rintro e w2 ⟨v, rfl, ho, hb⟩
  rw [(unhide hgs).1, (unhide hgs).2.1]
  rw [(unhide hgs).2.2] at ho
  obtain ⟨ay, cy, rfl, hcy, hzy, hry, -⟩ := ho.any
  clear ho
  dsimp only
  (try clear x0 x1 x2 x3 h0 h1 h2)
  replace HB := hide (below_tr (unhide HB) hb)
  replace HL := hide ((unhide HL).bel hb)
  replace HP := hide ((unhide HP).bel hb)
  replace HX := hide ((unhide HX).bel hb)
  replace HH := hide ((unhide HH).bel hb)
  have HY := hide (hry)
  clear hb hry
  have x0 := (unhide HX).cell 0 rfl
  have x1 := (unhide HX).cell 1 rfl
  have x2 := (unhide HX).cell 2 rfl
  have x3 := (unhide HX).cell 3 rfl
  have h0 := (unhide HH).cell 0 rfl
  have h1 := (unhide HH).cell 1 rfl
  have h2 := (unhide HH).cell 2 rfl
  (try clear x0 x1 x2 x3 h0 h1 h2)
  replace HB := hide (below_al (o := .cells #[.int .i64 s, .int .i64 l, .int .i64 o, .slice ay (putI t zs).length cy] 27) (unhide HB))
  replace HL := hide ((unhide HL).bel (below_a (.cells #[.int .i64 s, .int .i64 l, .int .i64 o, .slice ay (putI t zs).length cy] 27)))
  replace HP := hide ((unhide HP).bel (below_a (.cells #[.int .i64 s, .int .i64 l, .int .i64 o, .slice ay (putI t zs).length cy] 27)))
  replace HX := hide ((unhide HX).bel (below_a (.cells #[.int .i64 s, .int .i64 l, .int .i64 o, .slice ay (putI t zs).length cy] 27)))
  replace HH := hide ((unhide HH).bel (below_a (.cells #[.int .i64 s, .int .i64 l, .int .i64 o, .slice ay (putI t zs).length cy] 27)))
  replace HY := hide ((unhide HY).bel (below_a (.cells #[.int .i64 s, .int .i64 l, .int .i64 o, .slice ay (putI t zs).length cy] 27)))
  have HV := hide (box_new w2 [.int .i64 s, .int .i64 l, .int .i64 o, .slice ay (putI t zs).length cy] 27 (by simp [Value.oneCell']))
  have x0 := (unhide HX).cell 0 rfl
  have x1 := (unhide HX).cell 1 rfl
  have x2 := (unhide HX).cell 2 rfl
  have x3 := (unhide HX).cell 3 rfl
  have h0 := (unhide HH).cell 0 rfl
  have h1 := (unhide HH).cell 1 rfl
  have h2 := (unhide HH).cell 2 rfl
  have v0 := (unhide HV).cell 0 rfl
  have v1 := (unhide HV).cell 1 rfl
  have v2 := (unhide HV).cell 2 rfl
  have v3 := (unhide HV).cell 3 rfl
  go_wp2_with fail
  refine (c7 s l o zs ag zs.length cg t who a c d ps ap np capp _ rfl (by omega) hzg (unhide HL) (by omega) (unhide HFT) (unhide HQN) hq2 (by omega) (unhide HP)).mono ?_
  rintro e w3 ⟨v, rfl, ho, hb⟩
  rw [(unhide hgs).1, (unhide hgs).2.1]
  rw [(unhide hgs).2.2] at ho
  obtain ⟨az, cz, rfl, hcz, hzz, hrz, -⟩ := ho.any
  clear ho
  dsimp only
  (try clear x0 x1 x2 x3 h0 h1 h2 v0 v1 v2 v3)
  replace HB := hide (below_tr (unhide HB) hb)
  replace HL := hide ((unhide HL).bel hb)
  replace HP := hide ((unhide HP).bel hb)
  replace HX := hide ((unhide HX).bel hb)
  replace HH := hide ((unhide HH).bel hb)
  replace HY := hide ((unhide HY).bel hb)
  replace HV := hide ((unhide HV).bel hb)
  have HW := hide (hrz)
  clear hb hrz
  have x0 := (unhide HX).cell 0 rfl
  have x1 := (unhide HX).cell 1 rfl
  have x2 := (unhide HX).cell 2 rfl
  have x3 := (unhide HX).cell 3 rfl
  have h0 := (unhide HH).cell 0 rfl
  have h1 := (unhide HH).cell 1 rfl
  have h2 := (unhide HH).cell 2 rfl
  have v0 := (unhide HV).cell 0 rfl
  have v1 := (unhide HV).cell 1 rfl
  have v2 := (unhide HV).cell 2 rfl
  have v3 := (unhide HV).cell 3 rfl
  (try clear x0 x1 x2 x3 h0 h1 h2 v0 v1 v2 v3)
  replace HB := hide (below_al (o := .cells #[.int .i64 s, .int .i64 l, .int .i64 o, .slice az (putI t zs).length cz] 27) (unhide HB))
  replace HL := hide ((unhide HL).bel (below_a (.cells #[.int .i64 s, .int .i64 l, .int .i64 o, .slice az (putI t zs).length cz] 27)))
  replace HP := hide ((unhide HP).bel (below_a (.cells #[.int .i64 s, .int .i64 l, .int .i64 o, .slice az (putI t zs).length cz] 27)))
  replace HX := hide ((unhide HX).bel (below_a (.cells #[.int .i64 s, .int .i64 l, .int .i64 o, .slice az (putI t zs).length cz] 27)))
  replace HH := hide ((unhide HH).bel (below_a (.cells #[.int .i64 s, .int .i64 l, .int .i64 o, .slice az (putI t zs).length cz] 27)))
  replace HY := hide ((unhide HY).bel (below_a (.cells #[.int .i64 s, .int .i64 l, .int .i64 o, .slice az (putI t zs).length cz] 27)))
  replace HV := hide ((unhide HV).bel (below_a (.cells #[.int .i64 s, .int .i64 l, .int .i64 o, .slice az (putI t zs).length cz] 27)))
  replace HW := hide ((unhide HW).bel (below_a (.cells #[.int .i64 s, .int .i64 l, .int .i64 o, .slice az (putI t zs).length cz] 27)))
  have HU := hide (box_new w3 [.int .i64 s, .int .i64 l, .int .i64 o, .slice az (putI t zs).length cz] 27 (by simp [Value.oneCell']))
  have x0 := (unhide HX).cell 0 rfl
  have x1 := (unhide HX).cell 1 rfl
  have x2 := (unhide HX).cell 2 rfl
  have x3 := (unhide HX).cell 3 rfl
  have h0 := (unhide HH).cell 0 rfl
  have h1 := (unhide HH).cell 1 rfl
  have h2 := (unhide HH).cell 2 rfl
  have v0 := (unhide HV).cell 0 rfl
  have v1 := (unhide HV).cell 1 rfl
  have v2 := (unhide HV).cell 2 rfl
  have v3 := (unhide HV).cell 3 rfl
  have t0 := (unhide HU).cell 0 rfl
  have t1 := (unhide HU).cell 1 rfl
  have t2 := (unhide HU).cell 2 rfl
  have t3 := (unhide HU).cell 3 rfl
  go_wp2_with fail
  refine (c8 s l o (putI t zs) ay ((putI t zs).length) cy s l o (putI t zs) az ((putI t zs).length) cz _ rfl (by first | omega | decide) (unhide HY) rfl (by first | omega | decide) (unhide HW)).mono ?_
  rintro e w4 ⟨rfl, hb⟩
  rw [swG_self]
  (try clear x0 x1 x2 x3 h0 h1 h2 v0 v1 v2 v3 t0 t1 t2 t3)
  replace HB := hide (below_tr (unhide HB) hb)
  replace HL := hide ((unhide HL).bel hb)
  replace HP := hide ((unhide HP).bel hb)
  replace HX := hide ((unhide HX).bel hb)
  replace HH := hide ((unhide HH).bel hb)
  replace HY := hide ((unhide HY).bel hb)
  replace HV := hide ((unhide HV).bel hb)
  clear HU HW
  clear hb
  have x0 := (unhide HX).cell 0 rfl
  have x1 := (unhide HX).cell 1 rfl
  have x2 := (unhide HX).cell 2 rfl
  have x3 := (unhide HX).cell 3 rfl
  have h0 := (unhide HH).cell 0 rfl
  have h1 := (unhide HH).cell 1 rfl
  have h2 := (unhide HH).cell 2 rfl
  have v0 := (unhide HV).cell 0 rfl
  have v1 := (unhide HV).cell 1 rfl
  have v2 := (unhide HV).cell 2 rfl
  have v3 := (unhide HV).cell 3 rfl
  go_wp2_with fail
  refine (c9 s l o zs ag zs.length cg _ rfl (by omega) (unhide HL)).mono ?_
  rintro e w5 ⟨rfl, hb⟩
  rw [unhide HOK]
  (try clear x0 x1 x2 x3 h0 h1 h2 v0 v1 v2 v3)
  replace HB := hide (below_tr (unhide HB) hb)
  replace HL := hide ((unhide HL).bel hb)
  replace HP := hide ((unhide HP).bel hb)
  replace HX := hide ((unhide HX).bel hb)
  replace HH := hide ((unhide HH).bel hb)
  replace HY := hide ((unhide HY).bel hb)
  replace HV := hide ((unhide HV).bel hb)
  clear hb
  have x0 := (unhide HX).cell 0 rfl
  have x1 := (unhide HX).cell 1 rfl
  have x2 := (unhide HX).cell 2 rfl
  have x3 := (unhide HX).cell 3 rfl
  have h0 := (unhide HH).cell 0 rfl
  have h1 := (unhide HH).cell 1 rfl
  have h2 := (unhide HH).cell 2 rfl
  have v0 := (unhide HV).cell 0 rfl
  have v1 := (unhide HV).cell 1 rfl
  have v2 := (unhide HV).cell 2 rfl
  have v3 := (unhide HV).cell 3 rfl
  obtain ⟨g8, hg8⟩ : ∃ g, Hid (g = w2.heap.size) := ⟨_, rfl⟩
  go_upto_region 10 with fail
  go_cut [12] (fun s12 wx => s12 = .bool true ∧ Below w.heap.size w wx ∧ Row wx ag zs ∧ Row wx ap ps ∧ Box wx u1.heap.size [.int .i64 s, .int .i64 l, .int .i64 o, .slice ag zs.length cg] ∧ Box wx (u1.heap.size + 1) [.int .i64 a, .int .i64 c, .bool d] ∧ Row wx ay ((putI t zs)) ∧ Box wx w2.heap.size [.int .i64 s, .int .i64 l, .int .i64 o, .slice ay (putI t zs).length cy])
  case first =>
    obtain ⟨e1, e2, e3, e4, e5⟩ := sb_true (unhide HSB)
    subst e2
    subst e3
    obtain ⟨e6, e7⟩ := e1
    go_wp2_with fail
    refine (c11 zs ag zs.length cg t _ rfl (by omega) (unhide HL)).mono ?_
    rintro e w6 ⟨rfl, hb⟩
    rw [e4]
    (try clear x0 x1 x2 x3 h0 h1 h2 v0 v1 v2 v3)
    replace HB := hide (below_tr (unhide HB) hb)
    replace HL := hide ((unhide HL).bel hb)
    replace HP := hide ((unhide HP).bel hb)
    replace HX := hide ((unhide HX).bel hb)
    replace HH := hide ((unhide HH).bel hb)
    replace HY := hide ((unhide HY).bel hb)
    replace HV := hide ((unhide HV).bel hb)
    clear hb
    have x0 := (unhide HX).cell 0 rfl
    have x1 := (unhide HX).cell 1 rfl
    have x2 := (unhide HX).cell 2 rfl
    have x3 := (unhide HX).cell 3 rfl
    have h0 := (unhide HH).cell 0 rfl
    have h1 := (unhide HH).cell 1 rfl
    have h2 := (unhide HH).cell 2 rfl
    have v0 := (unhide HV).cell 0 rfl
    have v1 := (unhide HV).cell 1 rfl
    have v2 := (unhide HV).cell 2 rfl
    have v3 := (unhide HV).cell 3 rfl
    go_wp2_with fail
    refine (c12 ps o t a c false ap np capp _ (unhide HQN) hq2 (by omega) (unhide HFT) (unhide HP)).mono ?_
    rintro e w7 ⟨rfl, hb⟩
    rw [e5]
    (try clear x0 x1 x2 x3 h0 h1 h2 v0 v1 v2 v3)
    replace HB := hide (below_tr (unhide HB) hb)
    replace HL := hide ((unhide HL).bel hb)
    replace HP := hide ((unhide HP).bel hb)
    replace HX := hide ((unhide HX).bel hb)
    replace HH := hide ((unhide HH).bel hb)
    replace HY := hide ((unhide HY).bel hb)
    replace HV := hide ((unhide HV).bel hb)
    clear hb
    have x0 := (unhide HX).cell 0 rfl
    have x1 := (unhide HX).cell 1 rfl
    have x2 := (unhide HX).cell 2 rfl
    have x3 := (unhide HX).cell 3 rfl
    have h0 := (unhide HH).cell 0 rfl
    have h1 := (unhide HH).cell 1 rfl
    have h2 := (unhide HH).cell 2 rfl
    have v0 := (unhide HV).cell 0 rfl
    have v1 := (unhide HV).cell 1 rfl
    have v2 := (unhide HV).cell 2 rfl
    have v3 := (unhide HV).cell 3 rfl
    go_wp2_with fail
    (try clear x0 x1 x2 x3 h0 h1 h2 v0 v1 v2 v3)
    go_meet
    exact ⟨rfl, unhide HB, unhide HL, unhide HP, unhide HX, unhide HH, unhide HY, unhide HV⟩
  (try clear x0 x1 x2 x3 h0 h1 h2 v0 v1 v2 v3)
  case rest =>
    obtain ⟨rfl, fHB, fHL, fHP, fHX, fHH, fHY, fHV⟩ := hcut
    obtain ⟨W5, hWc⟩ : ∃ x, x = wc := ⟨_, rfl⟩
    subst hWc
    clear HB HL HP HX HH HY HV
    have HB := hide fHB
    have HL := hide fHL
    have HP := hide fHP
    have HX := hide fHX
    have HH := hide fHH
    have HY := hide fHY
    have HV := hide fHV
    clear fHB fHL fHP fHX fHH fHY fHV
    obtain ⟨-, -, -, e4, -⟩ := sb_true (unhide HSB)
    have HOK2 := hide (gatOk_put htb (unhide HOK) e4)
    have HG2 := hide (sh_not (unhide HOK2) (sb_4 (l := l) (who := who) (a := a) (c := c) (d := d) (ps := ps) (has_put t zs)))
    have HHP := hide (has_put t zs)
    clear e4
    have x0 := (unhide HX).cell 0 rfl
    have x1 := (unhide HX).cell 1 rfl
    have x2 := (unhide HX).cell 2 rfl
    have x3 := (unhide HX).cell 3 rfl
    have h0 := (unhide HH).cell 0 rfl
    have h1 := (unhide HH).cell 1 rfl
    have h2 := (unhide HH).cell 2 rfl
    have v0 := (unhide HV).cell 0 rfl
    have v1 := (unhide HV).cell 1 rfl
    have v2 := (unhide HV).cell 2 rfl
    have v3 := (unhide HV).cell 3 rfl
    go_wp2_with fail
    refine (c6 s l o (putI t zs) ay (putI t zs).length cy t who a c d ps ap np capp _ rfl (by omega) hzy (unhide HY) (by omega) (unhide HFT) (unhide HQN) hq2 (by omega) (unhide HP)).mono ?_
    rintro e w41 ⟨v, rfl, ho, hb⟩
    rw [(unhide HG2).1, (unhide HG2).2.1]
    rw [(unhide HG2).2.2] at ho
    obtain ⟨aq, cq, rfl, hcq, hzq, -, -⟩ := ho.any
    clear ho
    dsimp only
    (try clear x0 x1 x2 x3 h0 h1 h2 v0 v1 v2 v3)
    replace HB := hide (below_tr (unhide HB) hb)
    replace HL := hide ((unhide HL).bel hb)
    replace HP := hide ((unhide HP).bel hb)
    replace HX := hide ((unhide HX).bel hb)
    replace HH := hide ((unhide HH).bel hb)
    replace HY := hide ((unhide HY).bel hb)
    replace HV := hide ((unhide HV).bel hb)
    clear hb
    have x0 := (unhide HX).cell 0 rfl
    have x1 := (unhide HX).cell 1 rfl
    have x2 := (unhide HX).cell 2 rfl
    have x3 := (unhide HX).cell 3 rfl
    have h0 := (unhide HH).cell 0 rfl
    have h1 := (unhide HH).cell 1 rfl
    have h2 := (unhide HH).cell 2 rfl
    have v0 := (unhide HV).cell 0 rfl
    have v1 := (unhide HV).cell 1 rfl
    have v2 := (unhide HV).cell 2 rfl
    have v3 := (unhide HV).cell 3 rfl
    (try clear x0 x1 x2 x3 h0 h1 h2 v0 v1 v2 v3)
    replace HB := hide (below_al (o := .cells #[.int .i64 s, .int .i64 l, .int .i64 o, .slice aq (putI t zs).length cq] 27) (unhide HB))
    replace HL := hide ((unhide HL).bel (below_a (.cells #[.int .i64 s, .int .i64 l, .int .i64 o, .slice aq (putI t zs).length cq] 27)))
    replace HP := hide ((unhide HP).bel (below_a (.cells #[.int .i64 s, .int .i64 l, .int .i64 o, .slice aq (putI t zs).length cq] 27)))
    replace HX := hide ((unhide HX).bel (below_a (.cells #[.int .i64 s, .int .i64 l, .int .i64 o, .slice aq (putI t zs).length cq] 27)))
    replace HH := hide ((unhide HH).bel (below_a (.cells #[.int .i64 s, .int .i64 l, .int .i64 o, .slice aq (putI t zs).length cq] 27)))
    replace HY := hide ((unhide HY).bel (below_a (.cells #[.int .i64 s, .int .i64 l, .int .i64 o, .slice aq (putI t zs).length cq] 27)))
    replace HV := hide ((unhide HV).bel (below_a (.cells #[.int .i64 s, .int .i64 l, .int .i64 o, .slice aq (putI t zs).length cq] 27)))
    have HU := hide (box_new w41 [.int .i64 s, .int .i64 l, .int .i64 o, .slice aq (putI t zs).length cq] 27 (by simp [Value.oneCell']))
    have x0 := (unhide HX).cell 0 rfl
    have x1 := (unhide HX).cell 1 rfl
    have x2 := (unhide HX).cell 2 rfl
    have x3 := (unhide HX).cell 3 rfl
    have h0 := (unhide HH).cell 0 rfl
    have h1 := (unhide HH).cell 1 rfl
    have h2 := (unhide HH).cell 2 rfl
    have v0 := (unhide HV).cell 0 rfl
    have v1 := (unhide HV).cell 1 rfl
    have v2 := (unhide HV).cell 2 rfl
    have v3 := (unhide HV).cell 3 rfl
    have t0 := (unhide HU).cell 0 rfl
    have t1 := (unhide HU).cell 1 rfl
    have t2 := (unhide HU).cell 2 rfl
    have t3 := (unhide HU).cell 3 rfl
    go_wp2_with fail
    refine (c11 (putI t zs) ay (putI t zs).length cy t _ rfl (by omega) (unhide HY)).mono ?_
    rintro e w42 ⟨rfl, hb⟩
    rw [unhide HHP]
    have d9 : (((putI t zs).length : Int) == (zs.length : Int) + 1) = true := by rw [beq_iff_eq, putI_len]; rfl
    (try clear x0 x1 x2 x3 h0 h1 h2 v0 v1 v2 v3 t0 t1 t2 t3)
    replace HB := hide (below_tr (unhide HB) hb)
    replace HL := hide ((unhide HL).bel hb)
    replace HP := hide ((unhide HP).bel hb)
    replace HX := hide ((unhide HX).bel hb)
    replace HH := hide ((unhide HH).bel hb)
    replace HY := hide ((unhide HY).bel hb)
    replace HV := hide ((unhide HV).bel hb)
    replace HU := hide ((unhide HU).bel hb)
    clear hb
    have x0 := (unhide HX).cell 0 rfl
    have x1 := (unhide HX).cell 1 rfl
    have x2 := (unhide HX).cell 2 rfl
    have x3 := (unhide HX).cell 3 rfl
    have h0 := (unhide HH).cell 0 rfl
    have h1 := (unhide HH).cell 1 rfl
    have h2 := (unhide HH).cell 2 rfl
    have v0 := (unhide HV).cell 0 rfl
    have v1 := (unhide HV).cell 1 rfl
    have v2 := (unhide HV).cell 2 rfl
    have v3 := (unhide HV).cell 3 rfl
    have t0 := (unhide HU).cell 0 rfl
    have t1 := (unhide HU).cell 1 rfl
    have t2 := (unhide HU).cell 2 rfl
    have t3 := (unhide HU).cell 3 rfl
    go_wp2_with fail
    refine (c13 s l o (putI t zs) ay (putI t zs).length cy _ rfl (by omega) (unhide HY)).mono ?_
    rintro e w43 ⟨rfl, hb⟩
    rw [unhide HOK2]
    (try clear x0 x1 x2 x3 h0 h1 h2 v0 v1 v2 v3 t0 t1 t2 t3)
    replace HB := hide (below_tr (unhide HB) hb)
    replace HL := hide ((unhide HL).bel hb)
    replace HP := hide ((unhide HP).bel hb)
    replace HX := hide ((unhide HX).bel hb)
    replace HH := hide ((unhide HH).bel hb)
    replace HY := hide ((unhide HY).bel hb)
    replace HV := hide ((unhide HV).bel hb)
    replace HU := hide ((unhide HU).bel hb)
    clear hb
    have x0 := (unhide HX).cell 0 rfl
    have x1 := (unhide HX).cell 1 rfl
    have x2 := (unhide HX).cell 2 rfl
    have x3 := (unhide HX).cell 3 rfl
    have h0 := (unhide HH).cell 0 rfl
    have h1 := (unhide HH).cell 1 rfl
    have h2 := (unhide HH).cell 2 rfl
    have v0 := (unhide HV).cell 0 rfl
    have v1 := (unhide HV).cell 1 rfl
    have v2 := (unhide HV).cell 2 rfl
    have v3 := (unhide HV).cell 3 rfl
    have t0 := (unhide HU).cell 0 rfl
    have t1 := (unhide HU).cell 1 rfl
    have t2 := (unhide HU).cell 2 rfl
    have t3 := (unhide HU).cell 3 rfl
    go_wp2_with fail
    go_ret
    exact ⟨rfl, unhide HB⟩
end Go.Proofs.YtmlbphmbffkdnaaGreat
