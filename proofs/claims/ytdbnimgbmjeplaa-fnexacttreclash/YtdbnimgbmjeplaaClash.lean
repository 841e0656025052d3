/-
  The walks of the model's TreClash: l2Clash, TreClash.
-/
import Derived.Test.YtdbnimgbmjeplaaMathe
namespace Go.Proofs.Ytdbnimgbmjeplaa
open Go.RowKit
set_option linter.unusedVariables false

theorem own_four (w : World) (base : Nat) (hb : base ≤ w.heap.size) {a b c d : Int} (ha : Tm.okB a = true) (hb' : Tm.okB b = true) (hc : Tm.okB c = true) (hd : Tm.okB d = true) :
    Own (w.alloc (.cells #[.int .i64 a, .int .i64 b, .int .i64 c, .int .i64 d] 3)) base (.slice (some ⟨w.heap.size, 0, none⟩) 4 4) [a, b, c, d] := by
  refine ⟨fun z hz => ?_, World.ownsRow_lit w #[.int .i64 a, .int .i64 b, .int .i64 c, .int .i64 d] 4 hb (by unfold maxLen; omega) rfl⟩
  simp at hz
  rcases hz with rfl | rfl | rfl | rfl
  · exact ok_fits ha
  · exact ok_fits hb'
  · exact ok_fits hc
  · exact ok_fits hd
theorem told_four {w W : World} (hb : Below w.heap.size w W) {a b c d : Int} (ha : Tm.okB a = true) (hb' : Tm.okB b = true) (hc : Tm.okB c = true) (hd : Tm.okB d = true) :
    Told w [a, b, c, d] (.returned (.slice (some ⟨W.heap.size, 0, none⟩) 4 4)) (W.alloc (.cells #[.int .i64 a, .int .i64 b, .int .i64 c, .int .i64 d] 3)) :=
  ⟨_, rfl, own_four W w.heap.size hb.size ha hb' hc hd, hb.alloc hb.size _⟩
theorem told_then {w W w' : World} {e : Ending} {zs : List Int} (hb : Below w.heap.size w W) (h : Told W.drew zs e w') : Told w zs e w' := by
  obtain ⟨v, he, ho, hb'⟩ := h
  exact ⟨v, he, ho.mono hb.size, below_then hb (below_undrew hb')⟩

set_option maxHeartbeats 4000000 in
theorem c38 (f : Nat) : ∀ (l ps : List Int) (i leaf : Int) (ao bo : Option Addr) (n cap m cap' : Nat) (w : World), l.length ≤ f → l.length = n → ps.length = m → n ≤ cap → m ≤ cap' → Tm.Inv l i leaf ps → Row w ao l → Row w bo ps →
    Calls Try.prog 38 #[.slice ao n cap, .int .i64 i, .int .i64 leaf, .slice bo m cap'] w (Told w (Tm.clash f l i leaf ps)) := by
  induction f with
  | zero => intro l ps i leaf ao bo n cap m cap' w hf hn hm hcap hcap' hinv hr hs; have := hinv.two; omega
  | succ f ih =>
    intro l ps i leaf ao bo n cap m cap' w hf hn hm hcap hcap' hinv hr hs
    have IH := hide ih
    have h2 := hinv.two
    obtain ⟨k, hk⟩ := hinv.some
    have hmk : m = k + 1 := by omega
    subst hmk
    have h40 := hinv.len
    have i0 := hinv.i0
    have i1 := hinv.i1
    have hp40 := hinv.pl
    obtain ⟨s1, s2, s3⟩ := Tm.sp_bd h2 h40
    have hsi := Tm.sp_int h2 h40
    have hts := Tm.treSplit_of (n := (l.length : Int)) (by omega) (by omega)
    rw [hsi] at hts
    have HTS := hide hts
    obtain ⟨b, off, rfl, -⟩ := hr.2 (by intro e; subst e; simp at h2)
    obtain ⟨b2, off2, rfl, hd⟩ := hs.2 (by intro e; subst e; simp at hk)
    have hcell := hd k (by omega)
    have HRT := hide (hr.take (Tm.sp l))
    have HRD := hide (hr.drop (Tm.sp l))
    have HPT := hide (hs.take k)
    have htl : (l.take (Tm.sp l)).length = Tm.sp l := by rw [List.length_take]; omega
    have hdl : (l.drop (Tm.sp l)).length = l.length - Tm.sp l := by rw [List.length_drop]
    have hpl : (ps.take k).length = k := by rw [List.length_take]; omega
    have HPL := hide hpl
    have HL := hide (fun (w' : World) (hr' : Row w' (some ⟨b, off, none⟩) (l.take (Tm.sp l))) => c59 f (l.take (Tm.sp l)) (some ⟨b, off, none⟩) (Tm.sp l) cap w' (by omega) htl (by omega) (by omega) hr')
    have HRr := hide (fun (w' : World) (hr' : Row w' (some ⟨b, off + Tm.sp l, none⟩) (l.drop (Tm.sp l))) => c59 f (l.drop (Tm.sp l)) (some ⟨b, off + Tm.sp l, none⟩) (l.length - Tm.sp l) (cap - Tm.sp l) w' (by omega) hdl (by omega) (by omega) hr')
    have hpo := Tm.okAll_at hinv.po (k := k) (by omega)
    have hrt := Tm.root_ok _ (l.take (Tm.sp l)) (Nat.le_refl _) (by omega) (Tm.okAll_take hinv.ok (Tm.sp l))
    have hrd := Tm.root_ok _ (l.drop (Tm.sp l)) (Nat.le_refl _) (by omega) (Tm.okAll_drop hinv.ok (Tm.sp l))
    have hk1 : ps.length - 1 = k := by omega
    clear ih hts hd hr hs
    subst hn
    by_cases hi : i < Tm.split l.length
    · obtain ⟨x, hx, hxo, -, hinv'⟩ := hinv.left hk hi
      have hcl : Tm.clash (f + 1) l i leaf ps = if x = Tm.root (l.take (Tm.sp l)) ∧ ps.getD k 0 = Tm.root (l.drop (Tm.sp l)) then Tm.clash f (l.take (Tm.sp l)) i leaf (ps.take k) else [x, ps.getD k 0, Tm.root (l.take (Tm.sp l)), Tm.root (l.drop (Tm.sp l))] := by
        rw [Tm.clash, hk1, if_pos hi, hx]; rfl
      rw [hcl]
      clear hcl hinv
      have HI := hide hinv'
      have HX := hide hx
      have Hho := hide (And.intro hxo (And.intro hpo (And.intro hrt hrd)))
      clear hinv' hx hxo hpo hrt hrd
      have HLen := hide (And.intro htl hdl)
      clear htl hdl hpl hk1
      rw [hsi] at hi HX
      try rw [hsi] at HI
      try rw [hsi]
      clear hsi
      generalize Tm.root (l.take (Tm.sp l)) = rt at *
      generalize Tm.root (l.drop (Tm.sp l)) = rd at *
      generalize l.take (Tm.sp l) = lt at *
      generalize l.drop (Tm.sp l) = ld at *
      generalize ps.getD k 0 = p at *
      generalize ps.take k = init at *
      generalize Tm.sp l = s at *
      have hd2 : decide ((l.length : Int) < 2) = false := by rw [decide_eq_false_iff_not]; omega
      have t1 : (s : Int) ≤ (cap : Int) := by omega
      have t0 : (0 : Int) ≤ (s : Int) := by omega
      have k0 : (0 : Int) ≤ (k : Int) := by omega
      have hwk : IntKind.i64.wrap (((k + 1 : Nat) : Int) - 1) = (k : Int) := by rw [wrap_sub (by omega) (by omega)]; omega
      have hwk2 : IntKind.i64.wrap ((k : Int) + 1 - 1) = (k : Int) := by rw [wrap_sub (by omega) (by omega)]; omega
      have hcs : ¬ cap = s := by omega
      have hwk3 : IntKind.i64.wrap (k : Int) = (k : Int) := wrap_sub (by omega) (by omega)
      have hwi : IntKind.i64.wrap (i - (s : Int)) = i - (s : Int) := wrap_sub (by omega) (by omega)
      have t2 : (k : Int) ≤ (cap' : Int) := by omega
      have t3 : (s : Int) ≤ (l.length : Int) := by omega
      by_cases e1 : x = rt
      · have b1 : (x != rt) = false := by rw [bne_eq_false_iff_eq]; exact e1
        by_cases e2 : p = rd
        · have b2' : (p != rd) = false := by rw [bne_eq_false_iff_eq]; exact e2
          rw [if_pos ⟨e1, e2⟩]
          have HI2 := hide (unhide HI e1)
          clear HI e1 e2
          go_enter Try.func38, Try.ntmps38
          go_wp2_with fail
          refine (c60 _ _).mono ?_
          rintro e w' ⟨rfl, rfl⟩
          rw [unhide HTS]
          go_wp2_with fail
          go_quiet ((first | (go_at_call_of 59 (Value.slice (some ⟨b, off, none⟩) s cap); exact Calls.quiet_of (unhide HL _ (by exact (unhide HRT).drewN _))) | (go_at_call 59; exact Calls.quiet_of (unhide HRr _ (by exact (unhide HRD).drewN _)))))
          go_wp2_with fail
          refine (c61 k init _ _ leaf _ k cap' _ (unhide HPL) (unhide HPL) (by omega) (by omega) (by omega) (by omega) (by omega) (by omega) (by exact (unhide HPT).drewN _)).mono ?_
          rintro e w1 ⟨x', rfl, hx', hw1⟩
          have hxx := hx' x (unhide HX)
          subst hxx
          have HB1 : Hid (Below w'.heap.size w' w1) := by rw [hw1]; exact below_drewN (Below.refl _ _) _
          have HRT1 := hide ((unhide HRT).below HB1.out (Nat.le_refl _))
          have HRD1 := hide ((unhide HRD).below HB1.out (Nat.le_refl _))
          have HPT1 := hide ((unhide HPT).below HB1.out (Nat.le_refl _))
          rw [unhide HX]
          clear hx' hw1 hcell
          go_wp2_with fail
          have hW0 := below_drew w1
          go_region_held3 (fun w' => Below w1.heap.size w1 w') (assumption) ((go_at_call 38; refine ((unhide IH) lt init _ leaf _ _ s cap k cap' _ (by have := unhide HLen; omega) (by have := unhide HLen; omega) (unhide HPL) (by omega) (by omega) (unhide HI2) (by exact (unhide HRT1).drew) (by exact (unhide HPT1).drew)).mono ?_; rintro e w2 ⟨v2, rfl, ho2, hb2⟩; have hb3 := below_undrew hb2))
          have HT := hide (told_then (unhide HB1) ⟨v2, rfl, ho2, hb2⟩)
          clear ho2 hb2 hb3 hW0
          go_wp2_with fail
          go_ret
          exact unhide HT
        · have b2' : (p != rd) = true := by rw [bne_iff_ne]; exact e2
          rw [if_neg (fun h => e2 h.2)]
          clear HI e1 e2
          go_enter Try.func38, Try.ntmps38
          go_wp2_with fail
          refine (c60 _ _).mono ?_
          rintro e w' ⟨rfl, rfl⟩
          rw [unhide HTS]
          go_wp2_with fail
          go_quiet ((first | (go_at_call_of 59 (Value.slice (some ⟨b, off, none⟩) s cap); exact Calls.quiet_of (unhide HL _ (by exact (unhide HRT).drewN _))) | (go_at_call 59; exact Calls.quiet_of (unhide HRr _ (by exact (unhide HRD).drewN _)))))
          go_wp2_with fail
          refine (c61 k init _ _ leaf _ k cap' _ (unhide HPL) (unhide HPL) (by omega) (by omega) (by omega) (by omega) (by omega) (by omega) (by exact (unhide HPT).drewN _)).mono ?_
          rintro e w1 ⟨x', rfl, hx', hw1⟩
          have hxx := hx' x (unhide HX)
          subst hxx
          have HB1 : Hid (Below w'.heap.size w' w1) := by rw [hw1]; exact below_drewN (Below.refl _ _) _
          have HRT1 := hide ((unhide HRT).below HB1.out (Nat.le_refl _))
          have HRD1 := hide ((unhide HRD).below HB1.out (Nat.le_refl _))
          have HPT1 := hide ((unhide HPT).below HB1.out (Nat.le_refl _))
          rw [unhide HX]
          clear hx' hw1 hcell
          go_wp2_with fail
          go_ret
          exact told_four (unhide HB1) (unhide Hho).1 (unhide Hho).2.1 (unhide Hho).2.2.1 (unhide Hho).2.2.2
      · have b1 : (x != rt) = true := by rw [bne_iff_ne]; exact e1
        rw [if_neg (fun h => e1 h.1)]
        clear HI e1
        go_enter Try.func38, Try.ntmps38
        go_wp2_with fail
        refine (c60 _ _).mono ?_
        rintro e w' ⟨rfl, rfl⟩
        rw [unhide HTS]
        go_wp2_with fail
        go_quiet ((first | (go_at_call_of 59 (Value.slice (some ⟨b, off, none⟩) s cap); exact Calls.quiet_of (unhide HL _ (by exact (unhide HRT).drewN _))) | (go_at_call 59; exact Calls.quiet_of (unhide HRr _ (by exact (unhide HRD).drewN _)))))
        go_wp2_with fail
        refine (c61 k init _ _ leaf _ k cap' _ (unhide HPL) (unhide HPL) (by omega) (by omega) (by omega) (by omega) (by omega) (by omega) (by exact (unhide HPT).drewN _)).mono ?_
        rintro e w1 ⟨x', rfl, hx', hw1⟩
        have hxx := hx' x (unhide HX)
        subst hxx
        have HB1 : Hid (Below w'.heap.size w' w1) := by rw [hw1]; exact below_drewN (Below.refl _ _) _
        have HRT1 := hide ((unhide HRT).below HB1.out (Nat.le_refl _))
        have HRD1 := hide ((unhide HRD).below HB1.out (Nat.le_refl _))
        have HPT1 := hide ((unhide HPT).below HB1.out (Nat.le_refl _))
        rw [unhide HX]
        clear hx' hw1 hcell
        go_wp2_with fail
        go_ret
        exact told_four (unhide HB1) (unhide Hho).1 (unhide Hho).2.1 (unhide Hho).2.2.1 (unhide Hho).2.2.2
    · obtain ⟨x, hx, hxo, -, hinv'⟩ := hinv.right hk hi
      have hcl : Tm.clash (f + 1) l i leaf ps = if ps.getD k 0 = Tm.root (l.take (Tm.sp l)) ∧ x = Tm.root (l.drop (Tm.sp l)) then Tm.clash f (l.drop (Tm.sp l)) (i - Tm.split l.length) leaf (ps.take k) else [ps.getD k 0, x, Tm.root (l.take (Tm.sp l)), Tm.root (l.drop (Tm.sp l))] := by
        rw [Tm.clash, hk1, if_neg hi, hx]; rfl
      rw [hcl]
      clear hcl hinv
      have HI := hide hinv'
      have HX := hide hx
      have Hho := hide (And.intro hxo (And.intro hpo (And.intro hrt hrd)))
      clear hinv' hx hxo hpo hrt hrd
      have HLen := hide (And.intro htl hdl)
      clear htl hdl hpl hk1
      rw [hsi] at hi HX
      try rw [hsi] at HI
      try rw [hsi]
      clear hsi
      generalize Tm.root (l.take (Tm.sp l)) = rt at *
      generalize Tm.root (l.drop (Tm.sp l)) = rd at *
      generalize l.take (Tm.sp l) = lt at *
      generalize l.drop (Tm.sp l) = ld at *
      generalize ps.getD k 0 = p at *
      generalize ps.take k = init at *
      generalize Tm.sp l = s at *
      have hd2 : decide ((l.length : Int) < 2) = false := by rw [decide_eq_false_iff_not]; omega
      have t1 : (s : Int) ≤ (cap : Int) := by omega
      have t0 : (0 : Int) ≤ (s : Int) := by omega
      have k0 : (0 : Int) ≤ (k : Int) := by omega
      have hwk : IntKind.i64.wrap (((k + 1 : Nat) : Int) - 1) = (k : Int) := by rw [wrap_sub (by omega) (by omega)]; omega
      have hwk2 : IntKind.i64.wrap ((k : Int) + 1 - 1) = (k : Int) := by rw [wrap_sub (by omega) (by omega)]; omega
      have hcs : ¬ cap = s := by omega
      have hwk3 : IntKind.i64.wrap (k : Int) = (k : Int) := wrap_sub (by omega) (by omega)
      have hwi : IntKind.i64.wrap (i - (s : Int)) = i - (s : Int) := wrap_sub (by omega) (by omega)
      have t2 : (k : Int) ≤ (cap' : Int) := by omega
      have t3 : (s : Int) ≤ (l.length : Int) := by omega
      by_cases e1 : p = rt
      · have b1 : (p != rt) = false := by rw [bne_eq_false_iff_eq]; exact e1
        by_cases e2 : x = rd
        · have b2' : (x != rd) = false := by rw [bne_eq_false_iff_eq]; exact e2
          rw [if_pos ⟨e1, e2⟩]
          have HI2 := hide (unhide HI e2)
          clear HI e1 e2
          go_enter Try.func38, Try.ntmps38
          go_wp2_with fail
          refine (c60 _ _).mono ?_
          rintro e w' ⟨rfl, rfl⟩
          rw [unhide HTS]
          go_wp2_with fail
          go_quiet ((first | (go_at_call_of 59 (Value.slice (some ⟨b, off, none⟩) s cap); exact Calls.quiet_of (unhide HL _ (by exact (unhide HRT).drewN _))) | (go_at_call 59; exact Calls.quiet_of (unhide HRr _ (by exact (unhide HRD).drewN _)))))
          go_wp2_with fail
          refine (c61 k init _ _ leaf _ k cap' _ (unhide HPL) (unhide HPL) (by omega) (by omega) (by omega) (by omega) (by omega) (by omega) (by exact (unhide HPT).drewN _)).mono ?_
          rintro e w1 ⟨x', rfl, hx', hw1⟩
          have hxx := hx' x (unhide HX)
          subst hxx
          have HB1 : Hid (Below w'.heap.size w' w1) := by rw [hw1]; exact below_drewN (Below.refl _ _) _
          have HRT1 := hide ((unhide HRT).below HB1.out (Nat.le_refl _))
          have HRD1 := hide ((unhide HRD).below HB1.out (Nat.le_refl _))
          have HPT1 := hide ((unhide HPT).below HB1.out (Nat.le_refl _))
          rw [unhide HX]
          clear hx' hw1 hcell
          go_wp2_with fail
          have hW0 := below_drew w1
          go_region_held3 (fun w' => Below w1.heap.size w1 w') (assumption) ((go_at_call 38; refine ((unhide IH) ld init _ leaf _ _ (l.length - s) (cap - s) k cap' _ (by have := unhide HLen; omega) (by have := unhide HLen; omega) (unhide HPL) (by omega) (by omega) (unhide HI2) (by exact (unhide HRD1).drew) (by exact (unhide HPT1).drew)).mono ?_; rintro e w2 ⟨v2, rfl, ho2, hb2⟩; have hb3 := below_undrew hb2))
          have HT := hide (told_then (unhide HB1) ⟨v2, rfl, ho2, hb2⟩)
          clear ho2 hb2 hb3 hW0
          go_wp2_with fail
          go_ret
          exact unhide HT
        · have b2' : (x != rd) = true := by rw [bne_iff_ne]; exact e2
          rw [if_neg (fun h => e2 h.2)]
          clear HI e1 e2
          go_enter Try.func38, Try.ntmps38
          go_wp2_with fail
          refine (c60 _ _).mono ?_
          rintro e w' ⟨rfl, rfl⟩
          rw [unhide HTS]
          go_wp2_with fail
          go_quiet ((first | (go_at_call_of 59 (Value.slice (some ⟨b, off, none⟩) s cap); exact Calls.quiet_of (unhide HL _ (by exact (unhide HRT).drewN _))) | (go_at_call 59; exact Calls.quiet_of (unhide HRr _ (by exact (unhide HRD).drewN _)))))
          go_wp2_with fail
          refine (c61 k init _ _ leaf _ k cap' _ (unhide HPL) (unhide HPL) (by omega) (by omega) (by omega) (by omega) (by omega) (by omega) (by exact (unhide HPT).drewN _)).mono ?_
          rintro e w1 ⟨x', rfl, hx', hw1⟩
          have hxx := hx' x (unhide HX)
          subst hxx
          have HB1 : Hid (Below w'.heap.size w' w1) := by rw [hw1]; exact below_drewN (Below.refl _ _) _
          have HRT1 := hide ((unhide HRT).below HB1.out (Nat.le_refl _))
          have HRD1 := hide ((unhide HRD).below HB1.out (Nat.le_refl _))
          have HPT1 := hide ((unhide HPT).below HB1.out (Nat.le_refl _))
          rw [unhide HX]
          clear hx' hw1 hcell
          go_wp2_with fail
          go_ret
          exact told_four (unhide HB1) (unhide Hho).2.1 (unhide Hho).1 (unhide Hho).2.2.1 (unhide Hho).2.2.2
      · have b1 : (p != rt) = true := by rw [bne_iff_ne]; exact e1
        rw [if_neg (fun h => e1 h.1)]
        clear HI e1
        go_enter Try.func38, Try.ntmps38
        go_wp2_with fail
        refine (c60 _ _).mono ?_
        rintro e w' ⟨rfl, rfl⟩
        rw [unhide HTS]
        go_wp2_with fail
        go_quiet ((first | (go_at_call_of 59 (Value.slice (some ⟨b, off, none⟩) s cap); exact Calls.quiet_of (unhide HL _ (by exact (unhide HRT).drewN _))) | (go_at_call 59; exact Calls.quiet_of (unhide HRr _ (by exact (unhide HRD).drewN _)))))
        go_wp2_with fail
        refine (c61 k init _ _ leaf _ k cap' _ (unhide HPL) (unhide HPL) (by omega) (by omega) (by omega) (by omega) (by omega) (by omega) (by exact (unhide HPT).drewN _)).mono ?_
        rintro e w1 ⟨x', rfl, hx', hw1⟩
        have hxx := hx' x (unhide HX)
        subst hxx
        have HB1 : Hid (Below w'.heap.size w' w1) := by rw [hw1]; exact below_drewN (Below.refl _ _) _
        have HRT1 := hide ((unhide HRT).below HB1.out (Nat.le_refl _))
        have HRD1 := hide ((unhide HRD).below HB1.out (Nat.le_refl _))
        have HPT1 := hide ((unhide HPT).below HB1.out (Nat.le_refl _))
        rw [unhide HX]
        clear hx' hw1 hcell
        go_wp2_with fail
        go_ret
        exact told_four (unhide HB1) (unhide Hho).2.1 (unhide Hho).1 (unhide Hho).2.2.1 (unhide Hho).2.2.2
end Go.Proofs.Ytdbnimgbmjeplaa
