/-
  Texts of the proof, what it needs of them: Lawsgs, Logb.
-/
import Derived.Deep.Slices
import Derived.Lib.SmallJoins
import Derived.OpenShut
import Derived.ProofKit
import Derived.Test.YtmlbphmbffkdnaaGreatGh15
import Derived.Test.YtmlbphmbffkdnaaGreatGh17
import Derived.Test.YtmlbphmbffkdnaaGreatGh23
import Derived.Test.YtmlbphmbffkdnaaGreatGh29
import Derived.Test.YtmlbphmbffkdnaaGreatGh36
namespace Go.Proofs.YtmlbphmbffkdnaaGreat
open Go.RowKit
set_option linter.unusedVariables false
set_option maxRecDepth 100000

theorem live_put {w : World} {base : Nat} {A C : List LRow} {T n g m c : Nat} {cs : List Value} (h : Live w base (A ++ (T, n, .slice (some ⟨g, 0, none⟩) m c, m, cs) :: C)) (j : Nat) (v : Value) : Live (w.setCell ⟨g, j, none⟩ v) base (A ++ (T, n, .slice (some ⟨g, 0, none⟩) m c, m, cs.set j v) :: C) := by
  have h1 := ((live_pair.1 h).2.1).stored j v
  exact live_grow h h1.2 h1.1 (.inl rfl)
end Go.Proofs.YtmlbphmbffkdnaaGreat
namespace Go.Proofs.YtmlbphmbffkdnaaGreat
open Go.RowKit
set_option linter.unusedVariables false
set_option maxRecDepth 100000

set_option maxHeartbeats 16000000 in
theorem c24 (r k : Nat) (n : Int) (w : World) (hk : k ≤ 900000) (hn : 1 ≤ n ∧ n ≤ 1000000) (h : Rd w r k) :
    Calls Tryz.prog 24 #[.pointer (some ⟨r, 0, none⟩), .int .i64 n] w (LogD w r (k + 260)) := by
  have hrl := h.lt
  have HN := hide hn
  have H0 := hide h
  obtain ⟨i0, hi, hz0, hz1, hz2⟩ := info_parts Tryz.infoE
  clear h hn
  go_enter Tryz.func24, Tryz.ntmps24
  go_wp2_with fail
  refine (c29 _).mono ?_
  rintro e w1 ⟨rv, rfl, ho1, hb1⟩
  have HS : Hid (LogS w w1 r k (.slice (some ⟨w.heap.size, 0, none⟩) 0 0) rv [] Tm.none8) := logs_new (unhide H0) hb1 ho1
  clear ho1 hb1 H0
  go_wp2_with fail
  refine (c26 r k 40 _ (by omega) (unhide HS).1).mono ?_
  rintro e w2 ⟨x, rfl, hx0, hx1, hr, hg⟩
  have hx1 := hx1 (by omega)
  have HS2 := hide ((unhide HS).step hr hg hrl)
  clear hr hg HS
  go_wp2_with fail
  refine (pick_lit r (k + 1) 5 _ _ (by omega) (by omega) (unhide HS2).1).mono ?_
  rintro e w3 ⟨z, rfl, hz, hz2', hr, hg, hl⟩
  obtain ⟨zN, y, rfl, hzN, hy, hcy⟩ := lit_val (l := [0, 3, 8, 20, x]) hl hz (by simpa using hz2')
  have hy0 : 0 ≤ y ∧ y ≤ 39 := by simp at hy; omega
  have HS3 := hide ((unhide HS2).step hr hg hrl)
  obtain ⟨K0, rfl⟩ := Int.eq_ofNat_of_zero_le hy0.1
  have hK0 : K0 ≤ 39 := by omega
  clear hr hg hl hy HS2 hy0
  go_wp2_with fail
  clear hcy hzN hx0 hx1
  go_loopw [5, 6, 7] (fun v rv kv wr => ∃ (es : List Tm.Ent) (rs : List Tm.Rw) (K : Nat), kv = .int .i64 K ∧ K ≤ 40 ∧ es.length ≤ 40 ∧ Tm.ownOk rs = true ∧ LogS w wr r (k + 2 + 6 * (40 - K)) v rv es rs) (fun _ _ kv _ => (intOf kv).toNat)
  case atStart => exact ⟨[], Tm.none8, K0, rfl, by omega, by simp, Tm.none8_ok, (unhide HS3).mono (by omega)⟩
  case round =>
    obtain ⟨es, rs, K, rfl, hK, hes, hok, hS⟩ := hrel
    have HOK := hide hok
    clear hok
    obtain ⟨ao, cap, hv, hcap⟩ := hS.out
    have HS := hide hS
    clear hS HS3
    subst hv
    by_cases hlt : 0 < K ∧ es.length < 40
    · obtain ⟨hK1, hel⟩ := hlt
      obtain ⟨K, rfl⟩ : ∃ K', K = K' + 1 := ⟨K - 1, by omega⟩
      obtain ⟨b, off, capr, hrv, hcr, hrr⟩ := (unhide HS).rows
      subst hrv
      have hws : w.heap.size ≤ wr.heap.size := (unhide HS).2.1.size
      clear hrr
      go_wp2_with fail
      refine (c26 r (k + 2 + 6 * (40 - (K + 1))) 8 _ (by omega) (unhide HS).1).mono ?_
      rintro e w4 ⟨t, rfl, ht0, ht1, hr, hg⟩
      have ht1 := ht1 (by omega)
      have HS4 := hide ((unhide HS).step hr hg hrl)
      clear hr hg HS
      obtain ⟨tN, rfl⟩ := Int.eq_ofNat_of_zero_le ht0
      have htN : tN < 8 := by omega
      go_wp2_with fail
      refine (c26 r (k + 2 + 6 * (40 - (K + 1)) + 1) 5 _ (by omega) (unhide HS4).1).mono ?_
      rintro e w5 ⟨u, rfl, hu0, hu1, hr, hg⟩
      have hu1 := hu1 (by omega)
      have HS5 := hide ((unhide HS4).step hr hg hrl)
      clear hr hg HS4
      go_wp2_with fail
      refine (pick_lit r (k + 2 + 6 * (40 - (K + 1)) + 1 + 1) 3 _ _ (by omega) (by omega) (unhide HS5).1).mono ?_
      rintro e w6 ⟨z, rfl, hz, hz2', hr, hg, hl⟩
      obtain ⟨pN, p, rfl, hpN, hp, hcp⟩ := lit_val (l := [10, 20, 50]) hl hz (by simpa using hz2')
      have hp0 : 0 ≤ p ∧ p ≤ 50 := by simp at hp; omega
      have HS6 := hide ((unhide HS5).step hr hg hrl)
      clear hr hg hl hp HS5
      obtain ⟨ra, rc, rd, hrt⟩ : ∃ ra rc rd, rs[tN]? = some (ra, rc, rd) := r_at (by rw [(unhide HS6).2.2.2.2.1]; omega)
      have hfr : FitR (ra, rc, rd) := (unhide HS6).2.2.2.1.1 _ (mem_at hrt)
      have HEB : Hid (EntB w (w6.alloc (.cells #[.int .i64 1, .int .i64 tN, .int .i64 (1 + u), .int .i64 p] 80)) (.slice ao es.length cap) (.slice (some ⟨b, off, none⟩) 8 capr) w6.heap.size 1 tN (1 + u) p) := entb_new (unhide HS6) (by unfold FitsE; omega) _
      have HSA := hide ((unhide HS6).alloc (.cells #[.int .i64 1, .int .i64 tN, .int .i64 (1 + u), .int .i64 p] 80))
      have hR6 := ((unhide HSA).2.2.2.1.rows2 (unhide HSA).2.2.2.2.1)
      have hrc := r_cells (Below.refl _ _) hR6 hrt
      obtain ⟨c0, c1, c2⟩ := hrc
      have HFR := hide hfr
      have HRT := hide hrt
      clear hfr hrt hR6 HS6
      by_cases hw0 : 0 < ra
      · go_wp2_with fail
        have HSB := (unhide HSA).below (below_drew _)
        have HEBB := (unhide HEB).below (below_drew _)
        have hcell : (World.drew (w6.alloc (.cells #[.int .i64 1, .int .i64 tN, .int .i64 (1 + u), .int .i64 p] 80))).cell? ⟨b, off + tN * 3 + 1, none⟩ = some (.int .i64 rc) := cell_bl (below_drew _) c1
        clear HSA HEB c0 c1 c2
        refine wp_region_held_drew (S := fun W => W.cell? ⟨b, off + tN * 3 + 1, none⟩ = some (.int .i64 rc)) (by kernel_rfl) hcell (fun hHeld => ?_)
        generalize (w6.alloc (.cells #[.int .i64 1, .int .i64 tN, .int .i64 (1 + u), .int .i64 p] 80)).drew = V0 at *
        generalize w6.heap.size = g0 at *
        refine wpAnyH_take (i := 0) (oi := { dst := some 49, op := _, type := _, pos := _, after := _, guard := _ }) (v := ?_) rfl (by kernel_rfl) (by kernel_rfl) (by kernel_rfl) (by first | exact (fun _ _ _ h => h) | exact (fun _ _ _ h => by cases h.1)) (Or.inl ⟨by rfl, ?_⟩) (by assumption) ?_
        rotate_left
        · intro w hSw
          first | (go_simp; done) | (go_simp; with_reducible rfl)
        try simp only [Act.put, List.setIfInBounds_toArray, List.set_cons_zero, List.set_cons_succ]
        refine wpAnyH_take (i := 1) (oi := { dst := some 50, op := _, type := _, pos := _, after := _, guard := _ }) (v := ?_) rfl (by kernel_rfl) (by kernel_rfl) (by kernel_rfl) (by first | exact (fun _ _ _ h => h) | exact (fun _ _ _ h => by cases h.1)) (Or.inl ⟨by rfl, ?_⟩) (by assumption) ?_
        rotate_left
        · intro w hSw
          first | (go_simp; done) | (go_simp; with_reducible rfl)
        try simp only [Act.put, List.setIfInBounds_toArray, List.set_cons_zero, List.set_cons_succ]
        refine wpAnyH_take (i := 4) (oi := { dst := some 53, op := _, type := _, pos := _, after := _, guard := _ }) (v := ?_) rfl (by kernel_rfl) (by kernel_rfl) (by kernel_rfl) (by first | exact (fun _ _ _ h => h) | exact (fun _ _ _ h => by cases h.1)) (Or.inl ⟨by rfl, ?_⟩) (by assumption) ?_
        rotate_left
        · intro w hSw
          first | (go_simp; done) | (go_simp; with_reducible rfl)
        try simp only [Act.put, List.setIfInBounds_toArray, List.set_cons_zero, List.set_cons_succ]
        refine wpAnyH_take (i := 5) (oi := { dst := some 54, op := _, type := _, pos := _, after := _, guard := _ }) (v := ?_) rfl (by kernel_rfl) (by kernel_rfl) (by kernel_rfl) (by first | exact (fun _ _ _ h => h) | exact (fun _ _ _ h => by cases h.1)) (Or.inl ⟨by rfl, ?_⟩) (by assumption) ?_
        rotate_left
        · intro w hSw
          first | (go_simp; done) | (go_simp; with_reducible rfl)
        try simp only [Act.put, List.setIfInBounds_toArray, List.set_cons_zero, List.set_cons_succ]
        refine wpAnyH_take (i := 6) (oi := { dst := some 55, op := _, type := _, pos := _, after := _, guard := _ }) (v := ?_) rfl (by kernel_rfl) (by kernel_rfl) (by kernel_rfl) (by first | exact (fun _ _ _ h => h) | exact (fun _ _ _ h => by cases h.1)) (Or.inl ⟨by rfl, ?_⟩) (by assumption) ?_
        rotate_left
        · intro w hSw
          first | (go_simp; done) | (go_simp; with_reducible rfl)
        try simp only [Act.put, List.setIfInBounds_toArray, List.set_cons_zero, List.set_cons_succ]
        refine wpAnyH_take (i := 7) (oi := { dst := some 56, op := _, type := _, pos := _, after := _, guard := _ }) (v := ?_) rfl (by kernel_rfl) (by kernel_rfl) (by kernel_rfl) (by first | exact (fun _ _ _ h => h) | exact (fun _ _ _ h => by cases h.1)) (Or.inl ⟨by rfl, ?_⟩) (by assumption) ?_
        rotate_left
        · intro w hSw
          first | (go_simp; done) | (go_simp; with_reducible rfl)
        try simp only [Act.put, List.setIfInBounds_toArray, List.set_cons_zero, List.set_cons_succ]
        refine wpAnyH_take (i := 8) (oi := { dst := some 57, op := _, type := _, pos := _, after := _, guard := _ }) (v := ?_) rfl (by kernel_rfl) (by kernel_rfl) (by kernel_rfl) (by first | exact (fun _ _ _ h => h) | exact (fun _ _ _ h => by cases h.1)) (Or.inl ⟨by rfl, ?_⟩) (by assumption) ?_
        rotate_left
        · intro w hSw
          first | (go_simp; done) | (go_simp; with_reducible rfl)
        try simp only [Act.put, List.setIfInBounds_toArray, List.set_cons_zero, List.set_cons_succ]
        refine wpAnyH_take (i := 9) (oi := { dst := some 58, op := _, type := _, pos := _, after := _, guard := _ }) (v := ?_) rfl (by kernel_rfl) (by kernel_rfl) (by kernel_rfl) (by first | exact (fun _ _ _ h => h) | exact (fun _ _ _ h => by cases h.1)) (Or.inl ⟨by rfl, ?_⟩) (by assumption) ?_
        rotate_left
        · intro w hSw
          have hSw' := hSw
          first | (go_simp; done) | (go_simp; with_reducible rfl)
        try simp only [Act.put, List.setIfInBounds_toArray, List.set_cons_zero, List.set_cons_succ]
        refine wpAnyH_ready (rs := [2]) (by kernel_rfl) (by simp) ?_
        refine AllReadyH.cons (o := { dst := some 51, op := _, type := _, pos := _, after := _, guard := _ }) rfl (fun KX hKX => ?_) AllReadyH.nil
        go_simp
        go_at_call 26
        refine (c26 _ (k + 2 + 6 * (40 - (K + 1)) + 1 + 1 + 1) 5 _ (by omega) HSB.1).mono ?_
        rintro e V1 ⟨x1, rfl, x1a, x1b, hr, hg⟩
        have x1b := x1b (by omega)
        have hcell := hg.cell hcell (fun e => by have hz := (HSB.2.2.2.1.blk b rfl).1; simp only [Option.some.injEq] at e; omega)
        have HEBB := HEBB.step hg hrl
        have HSB := HSB.step hr hg hrl
        clear hr hg
        try go_wp2_with fail
        refine hKX.out _ _ hcell (fun hHeld => ?_)
        clear hKX KX hHeld
        try simp only [Act.put, List.setIfInBounds_toArray, List.set_cons_zero, List.set_cons_succ]
        have hwr : IntKind.i64.wrap (1 + x1) = 1 + x1 := wrap_sub (by omega) (by omega)
        refine wpAnyH_take (i := 3) (oi := { dst := some 52, op := _, type := _, pos := _, after := _, guard := _ }) (v := ?_) rfl (by kernel_rfl) (by kernel_rfl) (by kernel_rfl) (by first | exact (fun _ _ _ h => h) | exact (fun _ _ _ h => by cases h.1)) (Or.inl ⟨by rfl, ?_⟩) (by assumption) ?_
        rotate_left
        · intro w hSw
          first | (go_simp; done) | (go_simp; with_reducible rfl)
        try simp only [Act.put, List.setIfInBounds_toArray, List.set_cons_zero, List.set_cons_succ]
        refine wpAnyH_ready (rs := [10]) (by kernel_rfl) (by simp) ?_
        refine AllReadyH.cons (o := { dst := some 59, op := _, type := _, pos := _, after := _, guard := _ }) rfl (fun KX hKX => ?_) AllReadyH.nil
        go_simp
        go_at_call 67
        refine (c67 _ _).mono ?_
        rintro e w' ⟨rfl, rfl⟩
        try go_wp2_with fail
        refine hKX.out _ _ hcell (fun hHeld => ?_)
        clear hKX KX hHeld
        try simp only [Act.put, List.setIfInBounds_toArray, List.set_cons_zero, List.set_cons_succ]
        refine wpAnyH_ready (rs := [11]) (by kernel_rfl) (by simp) ?_
        refine AllReadyH.cons (o := { dst := some 60, op := _, type := _, pos := _, after := _, guard := _ }) rfl (fun KX hKX => ?_) AllReadyH.nil
        go_simp
        go_at_call 26
        refine (c26 _ (k + 2 + 6 * (40 - (K + 1)) + 1 + 1 + 1 + 1) _ _ (by omega) HSB.1).mono ?_
        rintro e V2 ⟨x2, rfl, x2a, x2b, hr, hg⟩
        have hface := ownOk_face (unhide HOK) (unhide HRT) hw0
        have x2b := x2b (by rw [Tm.cap_of hface]; omega)
        have x2c := (Tm.cap_bd rc).2
        have hcell := hg.cell hcell (fun e => by have hz := (HSB.2.2.2.1.blk b rfl).1; simp only [Option.some.injEq] at e; omega)
        have HEBB := HEBB.step hg hrl
        have HSB := HSB.step hr hg hrl
        clear hr hg hface
        try go_wp2_with fail
        refine hKX.out _ _ hcell (fun hHeld => ?_)
        clear hKX KX hHeld
        try simp only [Act.put, List.setIfInBounds_toArray, List.set_cons_zero, List.set_cons_succ]
        have hwr2 : IntKind.i64.wrap (1 + x2) = 1 + x2 := wrap_sub (by omega) (by omega)
        refine wpAnyH_take (i := 12) (oi := { dst := some 61, op := _, type := _, pos := _, after := _, guard := _ }) (v := ?_) rfl (by kernel_rfl) (by kernel_rfl) (by kernel_rfl) (by first | exact (fun _ _ _ h => h) | exact (fun _ _ _ h => by cases h.1)) (Or.inl ⟨by rfl, ?_⟩) (by assumption) ?_
        rotate_left
        · intro w hSw
          first | (go_simp; done) | (go_simp; with_reducible rfl)
        try simp only [Act.put, List.setIfInBounds_toArray, List.set_cons_zero, List.set_cons_succ]
        refine wpAnyH_take (i := 13) (oi := { dst := some 62, op := _, type := _, pos := _, after := _, guard := _ }) (v := ?_) rfl (by kernel_rfl) (by kernel_rfl) (by kernel_rfl) (by first | exact (fun _ _ _ h => h) | exact (fun _ _ _ h => by cases h.1)) (Or.inl ⟨by rfl, ?_⟩) (by assumption) ?_
        rotate_left
        · intro w hSw
          first | (go_simp; done) | (go_simp; with_reducible rfl)
        try simp only [Act.put, List.setIfInBounds_toArray, List.set_cons_zero, List.set_cons_succ]
        refine wpAnyH_ready (rs := [14]) (by kernel_rfl) (by simp) ?_
        have hb1 := HEBB.1
        have y0 := hb1.cell 0 rfl
        have y1 := hb1.cell 1 rfl
        have y2 := hb1.cell 2 rfl
        have y3 := hb1.cell 3 rfl
        have z0 := hb1.frozen 0 rfl
        have z1 := hb1.frozen 1 rfl
        have z2 := hb1.frozen 2 rfl
        have z3 := hb1.frozen 3 rfl
        clear hb1
        refine AllReadyH.cons (o := { dst := none, op := _, type := _, pos := _, after := _, guard := _ }) rfl (fun KX hKX => ?_) AllReadyH.nil
        go_simp
        try go_wp2_with fail
        have hg0b : g0 ≠ b := fun e => HEBB.2.2.2.1 (by rw [e]; rfl)
        have hcell : (four V2 g0 2 tN (1 + x1) (1 + x2)).cell? ⟨b, off + tN * 3 + 1, none⟩ = some (.int .i64 rc) := (grown_four V2 g0 _ _ _ _).cell hcell (fun e => by simp only [Option.some.injEq] at e; exact hg0b e.symm)
        have HSC := HSB.four HEBB hrl 2 tN (1 + x1) (1 + x2)
        have HEC := HEBB.four (a' := 2) (t' := tN) (u' := 1 + x1) (p' := 1 + x2) (by unfold FitsE; omega)
        clear y0 y1 y2 y3 z0 z1 z2 z3 HSB HEBB
        refine hKX.out _ _ hcell (fun hHeld => ?_)
        clear hKX KX hHeld
        try simp only [Act.put, List.setIfInBounds_toArray, List.set_cons_zero, List.set_cons_succ]
        refine wpAnyH_done (by kernel_rfl) ?_ _
        have HSD : Hid (LogS w ((((V2.setCell ⟨g0, 0, none⟩ (.int .i64 2)).setCell ⟨g0, 1, none⟩ (.int .i64 tN)).setCell ⟨g0, 2, none⟩ (.int .i64 (1 + x1))).setCell ⟨g0, 3, none⟩ (.int .i64 (1 + x2))) r _ _ _ es rs) := HSC
        have HED : Hid (EntB w ((((V2.setCell ⟨g0, 0, none⟩ (.int .i64 2)).setCell ⟨g0, 1, none⟩ (.int .i64 tN)).setCell ⟨g0, 2, none⟩ (.int .i64 (1 + x1))).setCell ⟨g0, 3, none⟩ (.int .i64 (1 + x2))) _ _ g0 2 tN (1 + x1) (1 + x2)) := HEC
        clear HSC HEC hcell hg0b
        generalize ((((V2.setCell ⟨g0, 0, none⟩ (.int .i64 2)).setCell ⟨g0, 1, none⟩ (.int .i64 tN)).setCell ⟨g0, 2, none⟩ (.int .i64 (1 + x1))).setCell ⟨g0, 3, none⟩ (.int .i64 (1 + x2))) = V3 at *
        go_wp2_with fail
        refine (c26 r (k + 2 + 6 * (40 - (K + 1)) + 1 + 1 + 1 + 1 + 1) 4 _ (by omega) (unhide HSD).1).mono ?_
        rintro e V4 ⟨q, rfl, hq, hq2, hr, hg⟩
        have HED2 := hide ((unhide HED).step hg hrl)
        have HSD2 := hide ((unhide HSD).step hr hg hrl)
        clear hr hg HSD HED hq2
        by_cases hq0 : q = 0
        · subst hq0
          have hR6 := ((unhide HSD2).2.2.2.1.rows2 (unhide HSD2).2.2.2.2.1)
          have hrc := r_cells (Below.refl _ _) hR6 (unhide HRT)
          obtain ⟨c0, c1, c2⟩ := hrc
          clear hR6 c1 c2
          have hb1 := (unhide HED2).1
          have y0 := hb1.cell 0 rfl
          have y1 := hb1.cell 1 rfl
          have y2 := hb1.cell 2 rfl
          have y3 := hb1.cell 3 rfl
          have z0 := hb1.frozen 0 rfl
          have z1 := hb1.frozen 1 rfl
          have z2 := hb1.frozen 2 rfl
          have z3 := hb1.frozen 3 rfl
          clear hb1
          have HSE : Hid (LogS w (four V4 g0 3 tN ra 0) r _ _ _ es rs) := (unhide HSD2).four (unhide HED2) hrl 3 tN ra 0
          have HEE : Hid (EntB w (four V4 g0 3 tN ra 0) _ _ g0 3 tN ra 0) := (unhide HED2).four (a' := 3) (t' := tN) (u' := ra) (p' := 0) (by have := unhide HFR; unfold FitR at this; unfold FitsE; simp at this; omega)
          have hg0b : g0 ≠ b := fun e => (unhide HED2).2.2.2.1 (by rw [e]; rfl)
          go_wp2_with fail
          clear y0 y1 y2 y3 z0 z1 z2 z3 c0

          have hb1 := (unhide HEE).1
          have y0 := hb1.cell 0 rfl
          have y1 := hb1.cell 1 rfl
          have y2 := hb1.cell 2 rfl
          have y3 := hb1.cell 3 rfl
          clear hb1
          go_wp2_with fail
          refine (c68 rs 3 ((tN : Int)) ra 0 (some ⟨b, off, none⟩) 8 capr _ (unhide HSE).2.2.2.2.1 (by omega) (fun e => by cases e) ((unhide HSE).2.2.2.1.rrow2)).mono ?_
          rintro e w7 ⟨v2, rfl, ho2, hb2⟩
          clear y0 y1 y2 y3
          have HE7 := hide ((unhide HEE).below hb2)
          have HF7 : Hid (FitE (3, (tN : Int), ra, 0)) := (unhide HEE).2.2.2.2
          rcases hf : Tm.fits rs (3, (tN : Int), ra, 0) with _ | _
          · have HS7 := hide ((unhide HSE).below hb2)
            clear ho2 hb2 HEE HSE HE7 HF7 hf
            go_wp2_with fail
            go_roundw
            case rel => exact ⟨es, rs, K, by go_num, by omega, by omega, unhide HOK, (unhide HS7).mono (by omega)⟩
            case measure => simp [intOf]
          · have h8n : (Tm.ownPut rs (3, (tN : Int), ra, 0)).length = 8 := by rw [ownPut_len]; exact (unhide HSE).2.2.2.2.1
            have HS7 := hide ((unhide HSE).rput hb2 ho2 h8n)
            have HOK2 : Hid (Tm.ownOk (Tm.ownPut rs (3, (tN : Int), ra, 0)) = true) := by unfold Hid; rw [ownPut_of hf]; exact Tm.put_ok hf
            clear ho2 hb2 HEE HSE hf h8n
            generalize Tm.ownPut rs (3, (tN : Int), ra, 0) = rs2 at *
            have hb1 := (unhide HE7).1
            have y0 := hb1.cell 0 rfl
            have y1 := hb1.cell 1 rfl
            have y2 := hb1.cell 2 rfl
            have y3 := hb1.cell 3 rfl
            clear hb1
            go_wp2_with (first | (at_builtin; refine wpList_append_lies _ rfl _ _ 40 rfl w.heap.size 80 i0 _ 4 32 Tryz.underlying40 hi hz0 hz1 hz2 rfl (by decide) _ _ _ rfl ((unhide HS7).2.2.1.2.alloc _) ⟨w7.heap.size, 0, none⟩ 1 1 (eCells (3, (tN : Int), ra, 0)) rfl rfl (news_new (by simp)) (by simp [eCells, Value.oneCell']) (by omega) (by unfold maxLen; omega) (by omega) (by have := (unhide HS7).2.1.size; simp; omega) (w7.heap.size + 1) (by simp) ?_; intro g9 cap9 w9 hown hgrow hlie hlt9) | fail)
            have HS9 := hide ((unhide HS7).more hrl (unhide HF7) hown hgrow hlie)
            clear hown hgrow hlie hlt9 HS7 HE7 HF7 y0 y1 y2 y3
            go_wp2_with fail
            go_roundw
            case rel => exact ⟨es ++ [(3, (tN : Int), ra, 0)], rs2, K, by go_num, by omega, by simp; omega, unhide HOK2, (unhide HS9).mono (by omega)⟩
            case measure => simp [intOf]
        have hqf : (q == 0) = false := by simpa using hq0
        have hb1 := (unhide HED2).1
        have y0 := hb1.cell 0 rfl
        have y1 := hb1.cell 1 rfl
        have y2 := hb1.cell 2 rfl
        have y3 := hb1.cell 3 rfl
        clear hb1
        go_wp2_with fail
        refine (c68 rs 2 ((tN : Int)) (1 + x1) (1 + x2) (some ⟨b, off, none⟩) 8 capr _ (unhide HSD2).2.2.2.2.1 (by omega) (fun e => by cases e) ((unhide HSD2).2.2.2.1.rrow2)).mono ?_
        rintro e w7 ⟨v2, rfl, ho2, hb2⟩
        clear y0 y1 y2 y3
        have HE7 := hide ((unhide HED2).below hb2)
        have HF7 : Hid (FitE (2, (tN : Int), 1 + x1, 1 + x2)) := (unhide HED2).2.2.2.2
        rcases hf : Tm.fits rs (2, (tN : Int), 1 + x1, 1 + x2) with _ | _
        · have HS7 := hide ((unhide HSD2).below hb2)
          clear ho2 hb2 HED2 HSD2 HE7 HF7 hf
          go_wp2_with fail
          go_roundw
          case rel => exact ⟨es, rs, K, by go_num, by omega, by omega, unhide HOK, (unhide HS7).mono (by omega)⟩
          case measure => simp [intOf]
        · have h8n : (Tm.ownPut rs (2, (tN : Int), 1 + x1, 1 + x2)).length = 8 := by rw [ownPut_len]; exact (unhide HSD2).2.2.2.2.1
          have HS7 := hide ((unhide HSD2).rput hb2 ho2 h8n)
          have HOK2 : Hid (Tm.ownOk (Tm.ownPut rs (2, (tN : Int), 1 + x1, 1 + x2)) = true) := by unfold Hid; rw [ownPut_of hf]; exact Tm.put_ok hf
          clear ho2 hb2 HED2 HSD2 hf h8n
          generalize Tm.ownPut rs (2, (tN : Int), 1 + x1, 1 + x2) = rs2 at *
          have hb1 := (unhide HE7).1
          have y0 := hb1.cell 0 rfl
          have y1 := hb1.cell 1 rfl
          have y2 := hb1.cell 2 rfl
          have y3 := hb1.cell 3 rfl
          clear hb1
          go_wp2_with (first | (at_builtin; refine wpList_append_lies _ rfl _ _ 40 rfl w.heap.size 80 i0 _ 4 32 Tryz.underlying40 hi hz0 hz1 hz2 rfl (by decide) _ _ _ rfl ((unhide HS7).2.2.1.2.alloc _) ⟨w7.heap.size, 0, none⟩ 1 1 (eCells (2, (tN : Int), 1 + x1, 1 + x2)) rfl rfl (news_new (by simp)) (by simp [eCells, Value.oneCell']) (by omega) (by unfold maxLen; omega) (by omega) (by have := (unhide HS7).2.1.size; simp; omega) (w7.heap.size + 1) (by simp) ?_; intro g9 cap9 w9 hown hgrow hlie hlt9) | fail)
          have HS9 := hide ((unhide HS7).more hrl (unhide HF7) hown hgrow hlie)
          clear hown hgrow hlie hlt9 HS7 HE7 HF7 y0 y1 y2 y3
          go_wp2_with fail
          go_roundw
          case rel => exact ⟨es ++ [(2, (tN : Int), 1 + x1, 1 + x2)], rs2, K, by go_num, by omega, by simp; omega, unhide HOK2, (unhide HS9).mono (by omega)⟩
          case measure => simp [intOf]
      · clear c1 c2
        have hb1 := (unhide HEB).1
        have y0 := hb1.cell 0 rfl
        have y1 := hb1.cell 1 rfl
        have y2 := hb1.cell 2 rfl
        have y3 := hb1.cell 3 rfl
        clear hb1
        go_wp2_with fail
        refine (c68 rs 1 ((tN : Int)) (1 + u) p (some ⟨b, off, none⟩) 8 capr _ (unhide HSA).2.2.2.2.1 (by omega) (fun e => by cases e) ((unhide HSA).2.2.2.1.rrow2)).mono ?_
        rintro e w7 ⟨v2, rfl, ho2, hb2⟩
        clear y0 y1 y2 y3
        have HE7 := hide ((unhide HEB).below hb2)
        have HF7 : Hid (FitE (1, (tN : Int), 1 + u, p)) := (unhide HEB).2.2.2.2
        rcases hf : Tm.fits rs (1, (tN : Int), 1 + u, p) with _ | _
        · have HS7 := hide ((unhide HSA).below hb2)
          clear ho2 hb2 HEB HSA HE7 HF7 hf
          go_wp2_with fail
          go_roundw
          case rel => exact ⟨es, rs, K, by go_num, by omega, by omega, unhide HOK, (unhide HS7).mono (by omega)⟩
          case measure => simp [intOf]
        · have h8n : (Tm.ownPut rs (1, (tN : Int), 1 + u, p)).length = 8 := by rw [ownPut_len]; exact (unhide HSA).2.2.2.2.1
          have HS7 := hide ((unhide HSA).rput hb2 ho2 h8n)
          have HOK2 : Hid (Tm.ownOk (Tm.ownPut rs (1, (tN : Int), 1 + u, p)) = true) := by unfold Hid; rw [ownPut_of hf]; exact Tm.put_ok hf
          clear ho2 hb2 HEB HSA hf h8n
          generalize Tm.ownPut rs (1, (tN : Int), 1 + u, p) = rs2 at *
          have hb1 := (unhide HE7).1
          have y0 := hb1.cell 0 rfl
          have y1 := hb1.cell 1 rfl
          have y2 := hb1.cell 2 rfl
          have y3 := hb1.cell 3 rfl
          clear hb1
          go_wp2_with (first | (at_builtin; refine wpList_append_lies _ rfl _ _ 40 rfl w.heap.size 80 i0 _ 4 32 Tryz.underlying40 hi hz0 hz1 hz2 rfl (by decide) _ _ _ rfl ((unhide HS7).2.2.1.2.alloc _) ⟨w7.heap.size, 0, none⟩ 1 1 (eCells (1, (tN : Int), 1 + u, p)) rfl rfl (news_new (by simp)) (by simp [eCells, Value.oneCell']) (by omega) (by unfold maxLen; omega) (by omega) (by have := (unhide HS7).2.1.size; simp; omega) (w7.heap.size + 1) (by simp) ?_; intro g9 cap9 w9 hown hgrow hlie hlt9) | fail)
          have HS9 := hide ((unhide HS7).more hrl (unhide HF7) hown hgrow hlie)
          clear hown hgrow hlie hlt9 HS7 HE7 HF7 y0 y1 y2 y3
          go_wp2_with fail
          go_roundw
          case rel => exact ⟨es ++ [(1, (tN : Int), 1 + u, p)], rs2, K, by go_num, by omega, by simp; omega, unhide HOK2, (unhide HS9).mono (by omega)⟩
          case measure => simp [intOf]
    · by_cases hK0z : K = 0
      · subst hK0z
        go_wp2_with fail
        refine (c27 r (k + 2 + 6 * (40 - 0)) n _ (by omega) (unhide HN) (unhide HS).1).mono ?_
        rintro e w4 ⟨bo, rfl, hr, hg⟩
        have HS4 := hide ((unhide HS).step hr hg hrl)
        clear hr hg HS
        cases bo
        · go_wp2_with fail
          go_ret
          exact (unhide HS4).fin (by omega) (by omega)
        go_wp2_with fail
        refine (c26 r (k + 2 + 6 * (40 - 0) + 1) 3 _ (by omega) (unhide HS4).1).mono ?_
        rintro e w5 ⟨q, rfl, hq, hq2, hr, hg⟩
        have HS5 := hide ((unhide HS4).step hr hg hrl)
        clear hr hg HS4 hq2
        by_cases h0 : q = 0
        · subst h0
          go_wp2_with fail
          refine (c69 r (k + 2 + 6 * (40 - 0) + 1 + 1) 3 _ (by omega) (by omega) (unhide HS5).1).mono ?_
          rintro e w6 ⟨a, t, u, p, rfl, hf, hr, hg⟩
          have HS6 := hide ((unhide HS5).step hr hg hrl)
          have HF6 : Hid (FitE (a, t, u, p)) := hf
          clear hr hg HS5 hf
          go_wp2_with (first | (at_builtin; refine wpList_append_lies _ rfl _ _ 40 rfl w.heap.size 80 i0 _ 4 32 Tryz.underlying40 hi hz0 hz1 hz2 rfl (by decide) _ _ _ rfl ((unhide HS6).2.2.1.2.alloc _) ⟨w6.heap.size, 0, none⟩ 1 1 (eCells (a, t, u, p)) rfl rfl (news_new (by simp)) (by simp [eCells, Value.oneCell']) (by omega) (by unfold maxLen; omega) (by omega) (by have := (unhide HS6).2.1.size; simp; omega) (w6.heap.size + 1) (by simp) ?_; intro g9 cap9 w9 hown hgrow hlie hlt9) | fail)
          have HS9 := hide ((unhide HS6).more hrl (unhide HF6) hown hgrow hlie)
          clear hown hgrow hlie hlt9 HS6 HF6
          go_wp2_with fail
          go_ret
          exact (unhide HS9).fin (by omega) (by simp; omega)
        have q0 : (q == 0) = false := by simpa using h0
        by_cases hpos : 0 < es.length
        · obtain ⟨g, rfl⟩ := (unhide HS5).outAt hpos
          go_wp2_with fail
          refine (c26 r (k + 2 + 6 * (40 - 0) + 1 + 1) es.length _ (by omega) (unhide HS5).1).mono ?_
          rintro e w6 ⟨j, rfl, hj0, hj1, hr, hg⟩
          have hj1 := hj1 (by omega)
          obtain ⟨jN, rfl⟩ := Int.eq_ofNat_of_zero_le hj0
          have hjN : jN < es.length := by omega
          have HS6 := hide ((unhide HS5).step hr hg hrl)
          clear hr hg HS5
          go_wp2_with fail
          have HSB := (unhide HS6).below (below_drew _)
          clear HS6
          refine wp_region_held_drew (S := fun _ => True) (by kernel_rfl) trivial (fun hHeld => ?_)
          generalize w6.drew = V0 at *
          have hjc : (jN : Int) ≤ (cap : Int) := by omega
          have hj1c : (jN : Int) + 1 ≤ (es.length : Int) := by omega
          have hwr : IntKind.i64.wrap ((jN : Int) + 1) = (jN : Int) + 1 := wrap_sub (by omega) (by omega)
          have hjt : ((jN : Int) + 1).toNat = jN + 1 := by omega
          have hj0' : (0 : Int) ≤ (jN : Int) + 1 := by omega
          have hjc2 : (jN : Int) ≤ (jN : Int) + 1 := by omega
          by_cases hce : cap = jN + 1
          · subst hce
            have hlz : es.length - (jN + 1) = 0 := by omega
            have hSn : (fun _ : World => True) V0 := trivial
            refine wpAnyH_take (i := 1) (oi := { dst := some 113, op := _, type := _, pos := _, after := _, guard := _ }) (v := ?_) rfl (by kernel_rfl) (by kernel_rfl) (by kernel_rfl) (by first | exact (fun _ _ _ h => h) | exact (fun _ _ _ h => by cases h.1)) (Or.inl ⟨by rfl, ?_⟩) (by assumption) ?_
            rotate_left
            · intro w hSw
              first | (go_simp; done) | (go_simp; with_reducible rfl)
            try simp only [Act.put, List.setIfInBounds_toArray, List.set_cons_zero, List.set_cons_succ]
            clear hSn
            have hSn : (fun _ : World => True) V0 := trivial
            refine wpAnyH_take (i := 2) (oi := { dst := some 114, op := _, type := _, pos := _, after := _, guard := _ }) (v := ?_) rfl (by kernel_rfl) (by kernel_rfl) (by kernel_rfl) (by first | exact (fun _ _ _ h => h) | exact (fun _ _ _ h => by cases h.1)) (Or.inl ⟨by rfl, ?_⟩) (by assumption) ?_
            rotate_left
            · intro w hSw
              first | (go_simp; done) | (go_simp; with_reducible rfl)
            try simp only [Act.put, List.setIfInBounds_toArray, List.set_cons_zero, List.set_cons_succ]
            clear hSn
            have hSn : (fun _ : World => True) V0 := trivial
            refine wpAnyH_take (i := 3) (oi := { dst := some 115, op := _, type := _, pos := _, after := _, guard := _ }) (v := ?_) rfl (by kernel_rfl) (by kernel_rfl) (by kernel_rfl) (by first | exact (fun _ _ _ h => h) | exact (fun _ _ _ h => by cases h.1)) (Or.inl ⟨by rfl, ?_⟩) (by assumption) ?_
            rotate_left
            · intro w hSw
              first | (go_simp; done) | (go_simp; with_reducible rfl)
            try simp only [Act.put, List.setIfInBounds_toArray, List.set_cons_zero, List.set_cons_succ]
            clear hSn
            have hSn : (fun _ : World => True) V0 := trivial
            refine wpAnyH_take (i := 5) (oi := { dst := some 117, op := _, type := _, pos := _, after := _, guard := _ }) (v := ?_) rfl (by kernel_rfl) (by kernel_rfl) (by kernel_rfl) (by first | exact (fun _ _ _ h => h) | exact (fun _ _ _ h => by cases h.1)) (Or.inl ⟨by rfl, ?_⟩) (by assumption) ?_
            rotate_left
            · intro w hSw
              first | (go_simp; done) | (go_simp; with_reducible rfl)
            try simp only [Act.put, List.setIfInBounds_toArray, List.set_cons_zero, List.set_cons_succ]
            clear hSn
            have hSn : (fun _ : World => True) V0 := trivial
            refine wpAnyH_take (i := 6) (oi := { dst := some 118, op := _, type := _, pos := _, after := _, guard := _ }) (v := ?_) rfl (by kernel_rfl) (by kernel_rfl) (by kernel_rfl) (by first | exact (fun _ _ _ h => h) | exact (fun _ _ _ h => by cases h.1)) (Or.inl ⟨by rfl, ?_⟩) (by assumption) ?_
            rotate_left
            · intro w hSw
              first | (go_simp; done) | (go_simp; with_reducible rfl)
            try simp only [Act.put, List.setIfInBounds_toArray, List.set_cons_zero, List.set_cons_succ]
            clear hSn
            have hSn : (fun _ : World => True) V0 := trivial
            refine wpAnyH_take (i := 7) (oi := { dst := some 119, op := _, type := _, pos := _, after := _, guard := _ }) (v := ?_) rfl (by kernel_rfl) (by kernel_rfl) (by kernel_rfl) (by first | exact (fun _ _ _ h => h) | exact (fun _ _ _ h => by cases h.1)) (Or.inl ⟨by rfl, ?_⟩) (by assumption) ?_
            rotate_left
            · intro w hSw
              first | (go_simp; done) | (go_simp; with_reducible rfl)
            try simp only [Act.put, List.setIfInBounds_toArray, List.set_cons_zero, List.set_cons_succ]
            clear hSn
            have hSn : (fun _ : World => True) V0 := trivial
            refine wpAnyH_take (i := 8) (oi := { dst := some 120, op := _, type := _, pos := _, after := _, guard := _ }) (v := ?_) rfl (by kernel_rfl) (by kernel_rfl) (by kernel_rfl) (by first | exact (fun _ _ _ h => h) | exact (fun _ _ _ h => by cases h.1)) (Or.inl ⟨by rfl, ?_⟩) (by assumption) ?_
            rotate_left
            · intro w hSw
              first | (go_simp; done) | (go_simp; with_reducible rfl)
            try simp only [Act.put, List.setIfInBounds_toArray, List.set_cons_zero, List.set_cons_succ]
            clear hSn
            refine wpAnyH_ready (rs := [0]) (by kernel_rfl) (by simp) ?_
            refine AllReadyH.cons (o := { dst := some 112, op := _, type := _, pos := _, after := _, guard := _ }) rfl (fun KX hKX => ?_) AllReadyH.nil
            go_simp
            refine hKX.out _ _ trivial (fun hHeld => ?_)
            clear hKX KX hHeld
            try simp only [Act.put, List.setIfInBounds_toArray, List.set_cons_zero, List.set_cons_succ]
            have HE0 := owns_empty V0 w.heap.size 4 80 HSB.2.1.size
            have HSC := HSB.alloc (.cells #[] 80)
            have hv0 : w.heap.size ≤ V0.heap.size := HSB.2.1.size
            have hne1 := HSB.ne1
            have hne2 := HSB.ne2
            clear HSB
            generalize V0.alloc (.cells #[] 80) = V1 at *
            generalize V0.heap.size = g1 at *
            refine wpAnyH_ready (rs := [4]) (by kernel_rfl) (by simp) ?_
            refine AllReadyH.cons (o := { dst := some 116, op := _, type := _, pos := _, after := _, guard := _ }) rfl (fun K' hK' => ?_) AllReadyH.nil
            refine step_append_own V1 rfl _ _ 40 rfl w.heap.size 80 i0 _ 4 32 Tryz.underlying40 hi hz0 hz1 hz2 rfl (by decide) _ _ _ rfl HE0 ⟨g, 0, none⟩ jN _ ((es.take jN).flatMap eCells) rfl (by rw [flat_len eCells 4 eCells_len, List.length_take, Nat.min_eq_left (by omega)]) (HSC.news 0 jN (es.take jN) (by rw [List.drop_zero])) (e_oneCell _) (by unfold maxLen; omega) (by omega) (by have := HSC.2.1.size; omega) ?_
            intro v1 V2 hown hgrow _
            refine hK'.out _ _ trivial (fun hHeld => ?_)
            clear hK' K' hHeld
            try simp only [Act.put, List.setIfInBounds_toArray, List.set_cons_zero, List.set_cons_succ]
            have HO1 := own_after1 hown
            have HSD := HSC.put (g := g1) hgrow hrl hv0 hne1 hne2
            clear hown hgrow HSC HE0
            refine wpAnyH_ready (rs := [9]) (by kernel_rfl) (by simp) ?_
            refine AllReadyH.cons (o := { dst := some 121, op := _, type := _, pos := _, after := _, guard := _ }) rfl (fun K' hK' => ?_) AllReadyH.nil
            refine step_append_own V2 rfl _ _ 40 rfl w.heap.size 80 i0 _ 4 32 Tryz.underlying40 hi hz0 hz1 hz2 rfl (by decide) _ _ _ rfl HO1 ⟨g, 0, none⟩ (es.length - (jN + 1)) _ ((es.drop (jN + 1)).flatMap eCells) (by rw [hlz]; rfl) (by rw [flat_len eCells 4 eCells_len, List.length_drop]) (by rw [show es.drop (jN + 1) = [] from List.drop_eq_nil_of_le (by omega)]; simp) (e_oneCell _) (by unfold maxLen; omega) (by omega) (by have := HSD.2.1.size; omega) ?_
            intro v2 V3 hown hgrow _
            refine hK'.out _ _ trivial (fun hHeld => ?_)
            clear hK' K' hHeld
            try simp only [Act.put, List.setIfInBounds_toArray, List.set_cons_zero, List.set_cons_succ]
            have hSn : (fun _ : World => True) V3 := trivial
            refine wpAnyH_take (i := 10) (oi := { dst := some 4, op := _, type := _, pos := _, after := _, guard := _ }) (v := ?_) rfl (by kernel_rfl) (by kernel_rfl) (by kernel_rfl) (by first | exact (fun _ _ _ h => h) | exact (fun _ _ _ h => by cases h.1)) (Or.inl ⟨by rfl, ?_⟩) (by assumption) ?_
            rotate_left
            · intro w hSw
              first | (go_simp; done) | (go_simp; with_reducible rfl)
            try simp only [Act.put, List.setIfInBounds_toArray, List.set_cons_zero, List.set_cons_succ]
            clear hSn
            have HF := hide (HSD.after2 HO1 hrl hjN (by omega) hown hgrow)
            clear hown hgrow HSD HO1
            refine wpAnyH_done (by kernel_rfl) ?_ _
            go_wp2_with fail
            go_ret
            exact (unhide HF).mono (by omega)
          · have hce2 : ¬ ((cap : Int) = (jN : Int) + 1) := by omega
            have hSn : (fun _ : World => True) V0 := trivial
            refine wpAnyH_take (i := 1) (oi := { dst := some 113, op := _, type := _, pos := _, after := _, guard := _ }) (v := ?_) rfl (by kernel_rfl) (by kernel_rfl) (by kernel_rfl) (by first | exact (fun _ _ _ h => h) | exact (fun _ _ _ h => by cases h.1)) (Or.inl ⟨by rfl, ?_⟩) (by assumption) ?_
            rotate_left
            · intro w hSw
              first | (go_simp; done) | (go_simp; with_reducible rfl)
            try simp only [Act.put, List.setIfInBounds_toArray, List.set_cons_zero, List.set_cons_succ]
            clear hSn
            have hSn : (fun _ : World => True) V0 := trivial
            refine wpAnyH_take (i := 2) (oi := { dst := some 114, op := _, type := _, pos := _, after := _, guard := _ }) (v := ?_) rfl (by kernel_rfl) (by kernel_rfl) (by kernel_rfl) (by first | exact (fun _ _ _ h => h) | exact (fun _ _ _ h => by cases h.1)) (Or.inl ⟨by rfl, ?_⟩) (by assumption) ?_
            rotate_left
            · intro w hSw
              first | (go_simp; done) | (go_simp; with_reducible rfl)
            try simp only [Act.put, List.setIfInBounds_toArray, List.set_cons_zero, List.set_cons_succ]
            clear hSn
            have hSn : (fun _ : World => True) V0 := trivial
            refine wpAnyH_take (i := 3) (oi := { dst := some 115, op := _, type := _, pos := _, after := _, guard := _ }) (v := ?_) rfl (by kernel_rfl) (by kernel_rfl) (by kernel_rfl) (by first | exact (fun _ _ _ h => h) | exact (fun _ _ _ h => by cases h.1)) (Or.inl ⟨by rfl, ?_⟩) (by assumption) ?_
            rotate_left
            · intro w hSw
              first | (go_simp; done) | (go_simp; with_reducible rfl)
            try simp only [Act.put, List.setIfInBounds_toArray, List.set_cons_zero, List.set_cons_succ]
            clear hSn
            have hSn : (fun _ : World => True) V0 := trivial
            refine wpAnyH_take (i := 5) (oi := { dst := some 117, op := _, type := _, pos := _, after := _, guard := _ }) (v := ?_) rfl (by kernel_rfl) (by kernel_rfl) (by kernel_rfl) (by first | exact (fun _ _ _ h => h) | exact (fun _ _ _ h => by cases h.1)) (Or.inl ⟨by rfl, ?_⟩) (by assumption) ?_
            rotate_left
            · intro w hSw
              first | (go_simp; done) | (go_simp; with_reducible rfl)
            try simp only [Act.put, List.setIfInBounds_toArray, List.set_cons_zero, List.set_cons_succ]
            clear hSn
            have hSn : (fun _ : World => True) V0 := trivial
            refine wpAnyH_take (i := 6) (oi := { dst := some 118, op := _, type := _, pos := _, after := _, guard := _ }) (v := ?_) rfl (by kernel_rfl) (by kernel_rfl) (by kernel_rfl) (by first | exact (fun _ _ _ h => h) | exact (fun _ _ _ h => by cases h.1)) (Or.inl ⟨by rfl, ?_⟩) (by assumption) ?_
            rotate_left
            · intro w hSw
              first | (go_simp; done) | (go_simp; with_reducible rfl)
            try simp only [Act.put, List.setIfInBounds_toArray, List.set_cons_zero, List.set_cons_succ]
            clear hSn
            have hSn : (fun _ : World => True) V0 := trivial
            refine wpAnyH_take (i := 7) (oi := { dst := some 119, op := _, type := _, pos := _, after := _, guard := _ }) (v := ?_) rfl (by kernel_rfl) (by kernel_rfl) (by kernel_rfl) (by first | exact (fun _ _ _ h => h) | exact (fun _ _ _ h => by cases h.1)) (Or.inl ⟨by rfl, ?_⟩) (by assumption) ?_
            rotate_left
            · intro w hSw
              first | (go_simp; done) | (go_simp; with_reducible rfl)
            try simp only [Act.put, List.setIfInBounds_toArray, List.set_cons_zero, List.set_cons_succ]
            clear hSn
            have hSn : (fun _ : World => True) V0 := trivial
            refine wpAnyH_take (i := 8) (oi := { dst := some 120, op := _, type := _, pos := _, after := _, guard := _ }) (v := ?_) rfl (by kernel_rfl) (by kernel_rfl) (by kernel_rfl) (by first | exact (fun _ _ _ h => h) | exact (fun _ _ _ h => by cases h.1)) (Or.inl ⟨by rfl, ?_⟩) (by assumption) ?_
            rotate_left
            · intro w hSw
              first | (go_simp; done) | (go_simp; with_reducible rfl)
            try simp only [Act.put, List.setIfInBounds_toArray, List.set_cons_zero, List.set_cons_succ]
            clear hSn
            refine wpAnyH_ready (rs := [0]) (by kernel_rfl) (by simp) ?_
            refine AllReadyH.cons (o := { dst := some 112, op := _, type := _, pos := _, after := _, guard := _ }) rfl (fun KX hKX => ?_) AllReadyH.nil
            go_simp
            refine hKX.out _ _ trivial (fun hHeld => ?_)
            clear hKX KX hHeld
            try simp only [Act.put, List.setIfInBounds_toArray, List.set_cons_zero, List.set_cons_succ]
            have HE0 := owns_empty V0 w.heap.size 4 80 HSB.2.1.size
            have HSC := HSB.alloc (.cells #[] 80)
            have hv0 : w.heap.size ≤ V0.heap.size := HSB.2.1.size
            have hne1 := HSB.ne1
            have hne2 := HSB.ne2
            clear HSB
            generalize V0.alloc (.cells #[] 80) = V1 at *
            generalize V0.heap.size = g1 at *
            refine wpAnyH_ready (rs := [4]) (by kernel_rfl) (by simp) ?_
            refine AllReadyH.cons (o := { dst := some 116, op := _, type := _, pos := _, after := _, guard := _ }) rfl (fun K' hK' => ?_) AllReadyH.nil
            refine step_append_own V1 rfl _ _ 40 rfl w.heap.size 80 i0 _ 4 32 Tryz.underlying40 hi hz0 hz1 hz2 rfl (by decide) _ _ _ rfl HE0 ⟨g, 0, none⟩ jN _ ((es.take jN).flatMap eCells) rfl (by rw [flat_len eCells 4 eCells_len, List.length_take, Nat.min_eq_left (by omega)]) (HSC.news 0 jN (es.take jN) (by rw [List.drop_zero])) (e_oneCell _) (by unfold maxLen; omega) (by omega) (by have := HSC.2.1.size; omega) ?_
            intro v1 V2 hown hgrow _
            refine hK'.out _ _ trivial (fun hHeld => ?_)
            clear hK' K' hHeld
            try simp only [Act.put, List.setIfInBounds_toArray, List.set_cons_zero, List.set_cons_succ]
            have HO1 := own_after1 hown
            have HSD := HSC.put (g := g1) hgrow hrl hv0 hne1 hne2
            clear hown hgrow HSC HE0
            refine wpAnyH_ready (rs := [9]) (by kernel_rfl) (by simp) ?_
            refine AllReadyH.cons (o := { dst := some 121, op := _, type := _, pos := _, after := _, guard := _ }) rfl (fun K' hK' => ?_) AllReadyH.nil
            refine step_append_own V2 rfl _ _ 40 rfl w.heap.size 80 i0 _ 4 32 Tryz.underlying40 hi hz0 hz1 hz2 rfl (by decide) _ _ _ rfl HO1 ⟨g, (jN + 1) * 4, none⟩ (es.length - (jN + 1)) _ ((es.drop (jN + 1)).flatMap eCells) rfl (by rw [flat_len eCells 4 eCells_len, List.length_drop]) (HSD.news (jN + 1) (es.length - (jN + 1)) (es.drop (jN + 1)) (by rw [← List.length_drop, List.take_length])) (e_oneCell _) (by unfold maxLen; omega) (by omega) (by have := HSD.2.1.size; omega) ?_
            intro v2 V3 hown hgrow _
            refine hK'.out _ _ trivial (fun hHeld => ?_)
            clear hK' K' hHeld
            try simp only [Act.put, List.setIfInBounds_toArray, List.set_cons_zero, List.set_cons_succ]
            have hSn : (fun _ : World => True) V3 := trivial
            refine wpAnyH_take (i := 10) (oi := { dst := some 4, op := _, type := _, pos := _, after := _, guard := _ }) (v := ?_) rfl (by kernel_rfl) (by kernel_rfl) (by kernel_rfl) (by first | exact (fun _ _ _ h => h) | exact (fun _ _ _ h => by cases h.1)) (Or.inl ⟨by rfl, ?_⟩) (by assumption) ?_
            rotate_left
            · intro w hSw
              first | (go_simp; done) | (go_simp; with_reducible rfl)
            try simp only [Act.put, List.setIfInBounds_toArray, List.set_cons_zero, List.set_cons_succ]
            clear hSn
            have HF := hide (HSD.after2 HO1 hrl hjN (by omega) hown hgrow)
            clear hown hgrow HSD HO1
            refine wpAnyH_done (by kernel_rfl) ?_ _
            go_wp2_with fail
            go_ret
            exact (unhide HF).mono (by omega)
        have hes0 : es = [] := List.eq_nil_of_length_eq_zero (by omega)
        subst hes0
        clear hpos
        go_wp2_with fail
        have HS6 := hide ((unhide HS5).mono (k' := k + 260) (by omega))
        clear HS5
        go_loopw [5] (fun v wr2 => ∃ (es : List Tm.Ent) (rv : Value), es.length ≤ 41 ∧ LogS w wr2 r (k + 260) v rv es rs) (fun v _ => 41 - sizeOf' v)
        case atStart => exact ⟨[], _, by simp, unhide HS6⟩
        case round =>
          obtain ⟨es, rv, hes, hS⟩ := hrel
          obtain ⟨ao, cap, hv, hcap⟩ := hS.out
          have HS := hide hS
          clear hS HS6
          subst hv
          by_cases hlt : es.length ≤ 40
          · have hlI : (es.length : Int) ≤ 40 := by omega
            go_wp2_with (first | (at_builtin; refine wpList_append_lies _ rfl _ _ 40 rfl w.heap.size 80 i0 _ 4 32 Tryz.underlying40 hi hz0 hz1 hz2 rfl (by decide) _ _ _ rfl ((unhide HS).2.2.1.2.alloc _) ⟨wr.heap.size, 0, none⟩ 1 1 (eCells (1, 1, 1, 1)) rfl rfl (news_new (by simp)) (by simp [eCells, Value.oneCell']) (by omega) (by unfold maxLen; omega) (by omega) (by have := (unhide HS).2.1.size; simp; omega) (wr.heap.size + 1) (by simp) ?_; intro g9 cap9 w9 hown hgrow hlie hlt9) | fail)
            have HS9 := hide ((unhide HS).more hrl e_fit1 hown hgrow hlie)
            clear hown hgrow hlie hlt9 HS
            go_wp2_with fail
            go_roundw
            case rel => exact ⟨es ++ [(1, 1, 1, 1)], rv, by simp; omega, unhide HS9⟩
            case measure => first | (simp [sizeOf']; done) | (simp [sizeOf']; omega) | omega
          · go_wp2_with fail
            go_ret
            exact (unhide HS).fin (by omega) (by omega)
      have hel : ¬ es.length < 40 := by omega
      have hK1 : 0 < K := by omega
      go_wp2_with fail
      refine (c27 r (k + 2 + 6 * (40 - K)) n _ (by omega) (unhide HN) (unhide HS).1).mono ?_
      rintro e w4 ⟨bo, rfl, hr, hg⟩
      have HS4 := hide ((unhide HS).step hr hg hrl)
      clear hr hg HS
      cases bo
      · go_wp2_with fail
        go_ret
        exact (unhide HS4).fin (by omega) (by omega)
      go_wp2_with fail
      refine (c26 r (k + 2 + 6 * (40 - K) + 1) 3 _ (by omega) (unhide HS4).1).mono ?_
      rintro e w5 ⟨q, rfl, hq, hq2, hr, hg⟩
      have HS5 := hide ((unhide HS4).step hr hg hrl)
      clear hr hg HS4 hq2
      by_cases h0 : q = 0
      · subst h0
        go_wp2_with fail
        refine (c69 r (k + 2 + 6 * (40 - K) + 1 + 1) 3 _ (by omega) (by omega) (unhide HS5).1).mono ?_
        rintro e w6 ⟨a, t, u, p, rfl, hf, hr, hg⟩
        have HS6 := hide ((unhide HS5).step hr hg hrl)
        have HF6 : Hid (FitE (a, t, u, p)) := hf
        clear hr hg HS5 hf
        go_wp2_with (first | (at_builtin; refine wpList_append_lies _ rfl _ _ 40 rfl w.heap.size 80 i0 _ 4 32 Tryz.underlying40 hi hz0 hz1 hz2 rfl (by decide) _ _ _ rfl ((unhide HS6).2.2.1.2.alloc _) ⟨w6.heap.size, 0, none⟩ 1 1 (eCells (a, t, u, p)) rfl rfl (news_new (by simp)) (by simp [eCells, Value.oneCell']) (by omega) (by unfold maxLen; omega) (by omega) (by have := (unhide HS6).2.1.size; simp; omega) (w6.heap.size + 1) (by simp) ?_; intro g9 cap9 w9 hown hgrow hlie hlt9) | fail)
        have HS9 := hide ((unhide HS6).more hrl (unhide HF6) hown hgrow hlie)
        clear hown hgrow hlie hlt9 HS6 HF6
        go_wp2_with fail
        go_ret
        exact (unhide HS9).fin (by omega) (by simp; omega)
      have q0 : (q == 0) = false := by simpa using h0
      by_cases hpos : 0 < es.length
      · obtain ⟨g, rfl⟩ := (unhide HS5).outAt hpos
        go_wp2_with fail
        refine (c26 r (k + 2 + 6 * (40 - K) + 1 + 1) es.length _ (by omega) (unhide HS5).1).mono ?_
        rintro e w6 ⟨j, rfl, hj0, hj1, hr, hg⟩
        have hj1 := hj1 (by omega)
        obtain ⟨jN, rfl⟩ := Int.eq_ofNat_of_zero_le hj0
        have hjN : jN < es.length := by omega
        have HS6 := hide ((unhide HS5).step hr hg hrl)
        clear hr hg HS5
        go_wp2_with fail
        have HSB := (unhide HS6).below (below_drew _)
        clear HS6
        refine wp_region_held_drew (S := fun _ => True) (by kernel_rfl) trivial (fun hHeld => ?_)
        generalize w6.drew = V0 at *
        have hjc : (jN : Int) ≤ (cap : Int) := by omega
        have hj1c : (jN : Int) + 1 ≤ (es.length : Int) := by omega
        have hwr : IntKind.i64.wrap ((jN : Int) + 1) = (jN : Int) + 1 := wrap_sub (by omega) (by omega)
        have hjt : ((jN : Int) + 1).toNat = jN + 1 := by omega
        have hj0' : (0 : Int) ≤ (jN : Int) + 1 := by omega
        have hjc2 : (jN : Int) ≤ (jN : Int) + 1 := by omega
        by_cases hce : cap = jN + 1
        · subst hce
          have hlz : es.length - (jN + 1) = 0 := by omega
          have hSn : (fun _ : World => True) V0 := trivial
          refine wpAnyH_take (i := 1) (oi := { dst := some 113, op := _, type := _, pos := _, after := _, guard := _ }) (v := ?_) rfl (by kernel_rfl) (by kernel_rfl) (by kernel_rfl) (by first | exact (fun _ _ _ h => h) | exact (fun _ _ _ h => by cases h.1)) (Or.inl ⟨by rfl, ?_⟩) (by assumption) ?_
          rotate_left
          · intro w hSw
            first | (go_simp; done) | (go_simp; with_reducible rfl)
          try simp only [Act.put, List.setIfInBounds_toArray, List.set_cons_zero, List.set_cons_succ]
          clear hSn
          have hSn : (fun _ : World => True) V0 := trivial
          refine wpAnyH_take (i := 2) (oi := { dst := some 114, op := _, type := _, pos := _, after := _, guard := _ }) (v := ?_) rfl (by kernel_rfl) (by kernel_rfl) (by kernel_rfl) (by first | exact (fun _ _ _ h => h) | exact (fun _ _ _ h => by cases h.1)) (Or.inl ⟨by rfl, ?_⟩) (by assumption) ?_
          rotate_left
          · intro w hSw
            first | (go_simp; done) | (go_simp; with_reducible rfl)
          try simp only [Act.put, List.setIfInBounds_toArray, List.set_cons_zero, List.set_cons_succ]
          clear hSn
          have hSn : (fun _ : World => True) V0 := trivial
          refine wpAnyH_take (i := 3) (oi := { dst := some 115, op := _, type := _, pos := _, after := _, guard := _ }) (v := ?_) rfl (by kernel_rfl) (by kernel_rfl) (by kernel_rfl) (by first | exact (fun _ _ _ h => h) | exact (fun _ _ _ h => by cases h.1)) (Or.inl ⟨by rfl, ?_⟩) (by assumption) ?_
          rotate_left
          · intro w hSw
            first | (go_simp; done) | (go_simp; with_reducible rfl)
          try simp only [Act.put, List.setIfInBounds_toArray, List.set_cons_zero, List.set_cons_succ]
          clear hSn
          have hSn : (fun _ : World => True) V0 := trivial
          refine wpAnyH_take (i := 5) (oi := { dst := some 117, op := _, type := _, pos := _, after := _, guard := _ }) (v := ?_) rfl (by kernel_rfl) (by kernel_rfl) (by kernel_rfl) (by first | exact (fun _ _ _ h => h) | exact (fun _ _ _ h => by cases h.1)) (Or.inl ⟨by rfl, ?_⟩) (by assumption) ?_
          rotate_left
          · intro w hSw
            first | (go_simp; done) | (go_simp; with_reducible rfl)
          try simp only [Act.put, List.setIfInBounds_toArray, List.set_cons_zero, List.set_cons_succ]
          clear hSn
          have hSn : (fun _ : World => True) V0 := trivial
          refine wpAnyH_take (i := 6) (oi := { dst := some 118, op := _, type := _, pos := _, after := _, guard := _ }) (v := ?_) rfl (by kernel_rfl) (by kernel_rfl) (by kernel_rfl) (by first | exact (fun _ _ _ h => h) | exact (fun _ _ _ h => by cases h.1)) (Or.inl ⟨by rfl, ?_⟩) (by assumption) ?_
          rotate_left
          · intro w hSw
            first | (go_simp; done) | (go_simp; with_reducible rfl)
          try simp only [Act.put, List.setIfInBounds_toArray, List.set_cons_zero, List.set_cons_succ]
          clear hSn
          have hSn : (fun _ : World => True) V0 := trivial
          refine wpAnyH_take (i := 7) (oi := { dst := some 119, op := _, type := _, pos := _, after := _, guard := _ }) (v := ?_) rfl (by kernel_rfl) (by kernel_rfl) (by kernel_rfl) (by first | exact (fun _ _ _ h => h) | exact (fun _ _ _ h => by cases h.1)) (Or.inl ⟨by rfl, ?_⟩) (by assumption) ?_
          rotate_left
          · intro w hSw
            first | (go_simp; done) | (go_simp; with_reducible rfl)
          try simp only [Act.put, List.setIfInBounds_toArray, List.set_cons_zero, List.set_cons_succ]
          clear hSn
          have hSn : (fun _ : World => True) V0 := trivial
          refine wpAnyH_take (i := 8) (oi := { dst := some 120, op := _, type := _, pos := _, after := _, guard := _ }) (v := ?_) rfl (by kernel_rfl) (by kernel_rfl) (by kernel_rfl) (by first | exact (fun _ _ _ h => h) | exact (fun _ _ _ h => by cases h.1)) (Or.inl ⟨by rfl, ?_⟩) (by assumption) ?_
          rotate_left
          · intro w hSw
            first | (go_simp; done) | (go_simp; with_reducible rfl)
          try simp only [Act.put, List.setIfInBounds_toArray, List.set_cons_zero, List.set_cons_succ]
          clear hSn
          refine wpAnyH_ready (rs := [0]) (by kernel_rfl) (by simp) ?_
          refine AllReadyH.cons (o := { dst := some 112, op := _, type := _, pos := _, after := _, guard := _ }) rfl (fun KX hKX => ?_) AllReadyH.nil
          go_simp
          refine hKX.out _ _ trivial (fun hHeld => ?_)
          clear hKX KX hHeld
          try simp only [Act.put, List.setIfInBounds_toArray, List.set_cons_zero, List.set_cons_succ]
          have HE0 := owns_empty V0 w.heap.size 4 80 HSB.2.1.size
          have HSC := HSB.alloc (.cells #[] 80)
          have hv0 : w.heap.size ≤ V0.heap.size := HSB.2.1.size
          have hne1 := HSB.ne1
          have hne2 := HSB.ne2
          clear HSB
          generalize V0.alloc (.cells #[] 80) = V1 at *
          generalize V0.heap.size = g1 at *
          refine wpAnyH_ready (rs := [4]) (by kernel_rfl) (by simp) ?_
          refine AllReadyH.cons (o := { dst := some 116, op := _, type := _, pos := _, after := _, guard := _ }) rfl (fun K' hK' => ?_) AllReadyH.nil
          refine step_append_own V1 rfl _ _ 40 rfl w.heap.size 80 i0 _ 4 32 Tryz.underlying40 hi hz0 hz1 hz2 rfl (by decide) _ _ _ rfl HE0 ⟨g, 0, none⟩ jN _ ((es.take jN).flatMap eCells) rfl (by rw [flat_len eCells 4 eCells_len, List.length_take, Nat.min_eq_left (by omega)]) (HSC.news 0 jN (es.take jN) (by rw [List.drop_zero])) (e_oneCell _) (by unfold maxLen; omega) (by omega) (by have := HSC.2.1.size; omega) ?_
          intro v1 V2 hown hgrow _
          refine hK'.out _ _ trivial (fun hHeld => ?_)
          clear hK' K' hHeld
          try simp only [Act.put, List.setIfInBounds_toArray, List.set_cons_zero, List.set_cons_succ]
          have HO1 := own_after1 hown
          have HSD := HSC.put (g := g1) hgrow hrl hv0 hne1 hne2
          clear hown hgrow HSC HE0
          refine wpAnyH_ready (rs := [9]) (by kernel_rfl) (by simp) ?_
          refine AllReadyH.cons (o := { dst := some 121, op := _, type := _, pos := _, after := _, guard := _ }) rfl (fun K' hK' => ?_) AllReadyH.nil
          refine step_append_own V2 rfl _ _ 40 rfl w.heap.size 80 i0 _ 4 32 Tryz.underlying40 hi hz0 hz1 hz2 rfl (by decide) _ _ _ rfl HO1 ⟨g, 0, none⟩ (es.length - (jN + 1)) _ ((es.drop (jN + 1)).flatMap eCells) (by rw [hlz]; rfl) (by rw [flat_len eCells 4 eCells_len, List.length_drop]) (by rw [show es.drop (jN + 1) = [] from List.drop_eq_nil_of_le (by omega)]; simp) (e_oneCell _) (by unfold maxLen; omega) (by omega) (by have := HSD.2.1.size; omega) ?_
          intro v2 V3 hown hgrow _
          refine hK'.out _ _ trivial (fun hHeld => ?_)
          clear hK' K' hHeld
          try simp only [Act.put, List.setIfInBounds_toArray, List.set_cons_zero, List.set_cons_succ]
          have hSn : (fun _ : World => True) V3 := trivial
          refine wpAnyH_take (i := 10) (oi := { dst := some 4, op := _, type := _, pos := _, after := _, guard := _ }) (v := ?_) rfl (by kernel_rfl) (by kernel_rfl) (by kernel_rfl) (by first | exact (fun _ _ _ h => h) | exact (fun _ _ _ h => by cases h.1)) (Or.inl ⟨by rfl, ?_⟩) (by assumption) ?_
          rotate_left
          · intro w hSw
            first | (go_simp; done) | (go_simp; with_reducible rfl)
          try simp only [Act.put, List.setIfInBounds_toArray, List.set_cons_zero, List.set_cons_succ]
          clear hSn
          have HF := hide (HSD.after2 HO1 hrl hjN (by omega) hown hgrow)
          clear hown hgrow HSD HO1
          refine wpAnyH_done (by kernel_rfl) ?_ _
          go_wp2_with fail
          go_ret
          exact (unhide HF).mono (by omega)
        · have hce2 : ¬ ((cap : Int) = (jN : Int) + 1) := by omega
          have hSn : (fun _ : World => True) V0 := trivial
          refine wpAnyH_take (i := 1) (oi := { dst := some 113, op := _, type := _, pos := _, after := _, guard := _ }) (v := ?_) rfl (by kernel_rfl) (by kernel_rfl) (by kernel_rfl) (by first | exact (fun _ _ _ h => h) | exact (fun _ _ _ h => by cases h.1)) (Or.inl ⟨by rfl, ?_⟩) (by assumption) ?_
          rotate_left
          · intro w hSw
            first | (go_simp; done) | (go_simp; with_reducible rfl)
          try simp only [Act.put, List.setIfInBounds_toArray, List.set_cons_zero, List.set_cons_succ]
          clear hSn
          have hSn : (fun _ : World => True) V0 := trivial
          refine wpAnyH_take (i := 2) (oi := { dst := some 114, op := _, type := _, pos := _, after := _, guard := _ }) (v := ?_) rfl (by kernel_rfl) (by kernel_rfl) (by kernel_rfl) (by first | exact (fun _ _ _ h => h) | exact (fun _ _ _ h => by cases h.1)) (Or.inl ⟨by rfl, ?_⟩) (by assumption) ?_
          rotate_left
          · intro w hSw
            first | (go_simp; done) | (go_simp; with_reducible rfl)
          try simp only [Act.put, List.setIfInBounds_toArray, List.set_cons_zero, List.set_cons_succ]
          clear hSn
          have hSn : (fun _ : World => True) V0 := trivial
          refine wpAnyH_take (i := 3) (oi := { dst := some 115, op := _, type := _, pos := _, after := _, guard := _ }) (v := ?_) rfl (by kernel_rfl) (by kernel_rfl) (by kernel_rfl) (by first | exact (fun _ _ _ h => h) | exact (fun _ _ _ h => by cases h.1)) (Or.inl ⟨by rfl, ?_⟩) (by assumption) ?_
          rotate_left
          · intro w hSw
            first | (go_simp; done) | (go_simp; with_reducible rfl)
          try simp only [Act.put, List.setIfInBounds_toArray, List.set_cons_zero, List.set_cons_succ]
          clear hSn
          have hSn : (fun _ : World => True) V0 := trivial
          refine wpAnyH_take (i := 5) (oi := { dst := some 117, op := _, type := _, pos := _, after := _, guard := _ }) (v := ?_) rfl (by kernel_rfl) (by kernel_rfl) (by kernel_rfl) (by first | exact (fun _ _ _ h => h) | exact (fun _ _ _ h => by cases h.1)) (Or.inl ⟨by rfl, ?_⟩) (by assumption) ?_
          rotate_left
          · intro w hSw
            first | (go_simp; done) | (go_simp; with_reducible rfl)
          try simp only [Act.put, List.setIfInBounds_toArray, List.set_cons_zero, List.set_cons_succ]
          clear hSn
          have hSn : (fun _ : World => True) V0 := trivial
          refine wpAnyH_take (i := 6) (oi := { dst := some 118, op := _, type := _, pos := _, after := _, guard := _ }) (v := ?_) rfl (by kernel_rfl) (by kernel_rfl) (by kernel_rfl) (by first | exact (fun _ _ _ h => h) | exact (fun _ _ _ h => by cases h.1)) (Or.inl ⟨by rfl, ?_⟩) (by assumption) ?_
          rotate_left
          · intro w hSw
            first | (go_simp; done) | (go_simp; with_reducible rfl)
          try simp only [Act.put, List.setIfInBounds_toArray, List.set_cons_zero, List.set_cons_succ]
          clear hSn
          have hSn : (fun _ : World => True) V0 := trivial
          refine wpAnyH_take (i := 7) (oi := { dst := some 119, op := _, type := _, pos := _, after := _, guard := _ }) (v := ?_) rfl (by kernel_rfl) (by kernel_rfl) (by kernel_rfl) (by first | exact (fun _ _ _ h => h) | exact (fun _ _ _ h => by cases h.1)) (Or.inl ⟨by rfl, ?_⟩) (by assumption) ?_
          rotate_left
          · intro w hSw
            first | (go_simp; done) | (go_simp; with_reducible rfl)
          try simp only [Act.put, List.setIfInBounds_toArray, List.set_cons_zero, List.set_cons_succ]
          clear hSn
          have hSn : (fun _ : World => True) V0 := trivial
          refine wpAnyH_take (i := 8) (oi := { dst := some 120, op := _, type := _, pos := _, after := _, guard := _ }) (v := ?_) rfl (by kernel_rfl) (by kernel_rfl) (by kernel_rfl) (by first | exact (fun _ _ _ h => h) | exact (fun _ _ _ h => by cases h.1)) (Or.inl ⟨by rfl, ?_⟩) (by assumption) ?_
          rotate_left
          · intro w hSw
            first | (go_simp; done) | (go_simp; with_reducible rfl)
          try simp only [Act.put, List.setIfInBounds_toArray, List.set_cons_zero, List.set_cons_succ]
          clear hSn
          refine wpAnyH_ready (rs := [0]) (by kernel_rfl) (by simp) ?_
          refine AllReadyH.cons (o := { dst := some 112, op := _, type := _, pos := _, after := _, guard := _ }) rfl (fun KX hKX => ?_) AllReadyH.nil
          go_simp
          refine hKX.out _ _ trivial (fun hHeld => ?_)
          clear hKX KX hHeld
          try simp only [Act.put, List.setIfInBounds_toArray, List.set_cons_zero, List.set_cons_succ]
          have HE0 := owns_empty V0 w.heap.size 4 80 HSB.2.1.size
          have HSC := HSB.alloc (.cells #[] 80)
          have hv0 : w.heap.size ≤ V0.heap.size := HSB.2.1.size
          have hne1 := HSB.ne1
          have hne2 := HSB.ne2
          clear HSB
          generalize V0.alloc (.cells #[] 80) = V1 at *
          generalize V0.heap.size = g1 at *
          refine wpAnyH_ready (rs := [4]) (by kernel_rfl) (by simp) ?_
          refine AllReadyH.cons (o := { dst := some 116, op := _, type := _, pos := _, after := _, guard := _ }) rfl (fun K' hK' => ?_) AllReadyH.nil
          refine step_append_own V1 rfl _ _ 40 rfl w.heap.size 80 i0 _ 4 32 Tryz.underlying40 hi hz0 hz1 hz2 rfl (by decide) _ _ _ rfl HE0 ⟨g, 0, none⟩ jN _ ((es.take jN).flatMap eCells) rfl (by rw [flat_len eCells 4 eCells_len, List.length_take, Nat.min_eq_left (by omega)]) (HSC.news 0 jN (es.take jN) (by rw [List.drop_zero])) (e_oneCell _) (by unfold maxLen; omega) (by omega) (by have := HSC.2.1.size; omega) ?_
          intro v1 V2 hown hgrow _
          refine hK'.out _ _ trivial (fun hHeld => ?_)
          clear hK' K' hHeld
          try simp only [Act.put, List.setIfInBounds_toArray, List.set_cons_zero, List.set_cons_succ]
          have HO1 := own_after1 hown
          have HSD := HSC.put (g := g1) hgrow hrl hv0 hne1 hne2
          clear hown hgrow HSC HE0
          refine wpAnyH_ready (rs := [9]) (by kernel_rfl) (by simp) ?_
          refine AllReadyH.cons (o := { dst := some 121, op := _, type := _, pos := _, after := _, guard := _ }) rfl (fun K' hK' => ?_) AllReadyH.nil
          refine step_append_own V2 rfl _ _ 40 rfl w.heap.size 80 i0 _ 4 32 Tryz.underlying40 hi hz0 hz1 hz2 rfl (by decide) _ _ _ rfl HO1 ⟨g, (jN + 1) * 4, none⟩ (es.length - (jN + 1)) _ ((es.drop (jN + 1)).flatMap eCells) rfl (by rw [flat_len eCells 4 eCells_len, List.length_drop]) (HSD.news (jN + 1) (es.length - (jN + 1)) (es.drop (jN + 1)) (by rw [← List.length_drop, List.take_length])) (e_oneCell _) (by unfold maxLen; omega) (by omega) (by have := HSD.2.1.size; omega) ?_
          intro v2 V3 hown hgrow _
          refine hK'.out _ _ trivial (fun hHeld => ?_)
          clear hK' K' hHeld
          try simp only [Act.put, List.setIfInBounds_toArray, List.set_cons_zero, List.set_cons_succ]
          have hSn : (fun _ : World => True) V3 := trivial
          refine wpAnyH_take (i := 10) (oi := { dst := some 4, op := _, type := _, pos := _, after := _, guard := _ }) (v := ?_) rfl (by kernel_rfl) (by kernel_rfl) (by kernel_rfl) (by first | exact (fun _ _ _ h => h) | exact (fun _ _ _ h => by cases h.1)) (Or.inl ⟨by rfl, ?_⟩) (by assumption) ?_
          rotate_left
          · intro w hSw
            first | (go_simp; done) | (go_simp; with_reducible rfl)
          try simp only [Act.put, List.setIfInBounds_toArray, List.set_cons_zero, List.set_cons_succ]
          clear hSn
          have HF := hide (HSD.after2 HO1 hrl hjN (by omega) hown hgrow)
          clear hown hgrow HSD HO1
          refine wpAnyH_done (by kernel_rfl) ?_ _
          go_wp2_with fail
          go_ret
          exact (unhide HF).mono (by omega)
      omega
end Go.Proofs.YtmlbphmbffkdnaaGreat
