/-
  The tickets of deals with a buyer.
-/
import Derived.Test.YtdpkdcdieajkbaaDlof
namespace Go.Proofs.Ytdpkdcdieajkbaa
open Go.RowKit
set_option linter.unusedVariables false
set_option maxRecDepth 100000

/-- the tickets of deals with such a buyer -/
def forOf (ds : List Tm.Deal) (u : Int) : List Int := (ds.filter (fun d => decide (d.2.2.2.1 = u))).map (fun d => d.1)
theorem forOf_hit {ds : List Tm.Deal} {k : Nat} {x0 x1 x2 x3 x4 u : Int} (h : ds[k]? = some (x0, x1, x2, x3, x4)) (hu : x3 = u) : forOf (ds.take (k + 1)) u = forOf (ds.take k) u ++ [x0] := by
  unfold forOf
  rw [List.take_add_one, h, List.filter_append, List.map_append]
  simp [hu]
theorem forOf_on {ds : List Tm.Deal} {k : Nat} {x0 x1 x2 x3 x4 u : Int} (h : ds[k]? = some (x0, x1, x2, x3, x4)) (hu : ¬ x3 = u) : forOf (ds.take (k + 1)) u = forOf (ds.take k) u := by
  unfold forOf
  rw [List.take_add_one, h, List.filter_append, List.map_append]
  simp [hu]
theorem forOf_len (ds : List Tm.Deal) (u : Int) : (forOf ds u).length ≤ ds.length := by unfold forOf; rw [List.length_map]; exact List.length_filter_le _ _
/-- the tickets for which somebody has put the price down -/
def mktFor (ds : List Tm.Deal) (u : Int) : List Int := if u = 0 then [] else forOf ds u
theorem mktFor_len (ds : List Tm.Deal) (u : Int) : (mktFor ds u).length ≤ ds.length := by unfold mktFor; split; simp; exact forOf_len ds u
theorem mktFor_hit {ds : List Tm.Deal} {k : Nat} {x0 x1 x2 x3 x4 u : Int} (h : ds[k]? = some (x0, x1, x2, x3, x4)) (h0 : ¬ u = 0) (hu : x3 = u) : mktFor (ds.take (k + 1)) u = mktFor (ds.take k) u ++ [x0] := by unfold mktFor; rw [if_neg h0, if_neg h0]; exact forOf_hit h hu
theorem mktFor_on {ds : List Tm.Deal} {k : Nat} {x0 x1 x2 x3 x4 u : Int} (h : ds[k]? = some (x0, x1, x2, x3, x4)) (hu : ¬ (¬ x3 = 0 ∧ x3 = u)) : mktFor (ds.take (k + 1)) u = mktFor (ds.take k) u := by
  unfold mktFor
  by_cases h0 : u = 0
  · rw [if_pos h0, if_pos h0]
  · rw [if_neg h0, if_neg h0]; exact forOf_on h (fun e => hu ⟨fun z => h0 (e.symm.trans z), e⟩)


set_option maxHeartbeats 8000000 in
theorem c179 (h : House) (q : HP) (u : Int) (w : World) (hs : h.ds.length ≤ 1048576) (hr : HRow w q h) : Calls Try.prog 179 #[hV q h, .int .i64 u] w (Told w (forOf h.ds u)) := by
  obtain ⟨es, pu, ds, cl, nu, sa⟩ := h
  obtain ⟨a0, k0, a1, k1, a2, k2, a4, k4, a5, k5⟩ := q
  have HRR := hide hr
  have HR := hide hr.2.2.1.2
  have HF := hide hr.2.2.1.1
  clear hr
  obtain ⟨i0, hi, hz0, hz1, hz2⟩ := info_parts Try.info3
  dsimp only at hs HR HF ⊢
  have HB := hide (Below.refl w.heap.size w)
  replace HB := hide (below_al (o := .cells #[.slice a0 es.length k0, .slice a1 pu.length k1, .slice a2 ds.length k2, .int .i64 cl, .slice a4 nu.length k4, .slice a5 sa.length k5] 97) (unhide HB))
  have HX := hide (box_new w [.slice a0 es.length k0, .slice a1 pu.length k1, .slice a2 ds.length k2, .int .i64 cl, .slice a4 nu.length k4, .slice a5 sa.length k5] 97 (by simp [Value.oneCell']))
  (try simp only [World.size_alloc] at HX)
  have x0c := (unhide HX).cell 0 rfl
  have x1c := (unhide HX).cell 1 rfl
  have x2c := (unhide HX).cell 2 rfl
  have x3c := (unhide HX).cell 3 rfl
  have x4c := (unhide HX).cell 4 rfl
  have x5c := (unhide HX).cell 5 rfl
  go_enter Try.func179, Try.ntmps179
  go_wp2_with fail
  (try clear x0c x1c x2c x3c x4c x5c)
  have hlx := (unhide HX).lt
  have hws : (w.alloc (.cells #[.slice a0 es.length k0, .slice a1 pu.length k1, .slice a2 ds.length k2, .int .i64 cl, .slice a4 nu.length k4, .slice a5 sa.length k5] 97)).heap.size = w.heap.size + 1 := by simp
  generalize hWB : w.alloc (.cells #[.slice a0 es.length k0, .slice a1 pu.length k1, .slice a2 ds.length k2, .int .i64 cl, .slice a4 nu.length k4, .slice a5 sa.length k5] 97) = WB at *
  clear hWB
  go_loopw [5, 11] (fun v i wr => ∃ k : Nat, k ≤ ds.length ∧ i = .int .i64 k ∧ Own wr WB.heap.size v (forOf (ds.take k) u) ∧ Below WB.heap.size WB wr) (fun _ i _ => ds.length - (intOf i).toNat)
  case atStart => exact ⟨0, Nat.zero_le _, rfl, (by rw [show forOf (ds.take 0) u = [] by simp [forOf]]; exact own_none _ _ (Nat.le_refl _)), Below.refl _ _⟩
  case round =>
    obtain ⟨k, hk, rfl, hown, hbel⟩ := hrel
    obtain ⟨WA, hWA⟩ : ∃ x, x = wr := ⟨_, rfl⟩
    subst hWA
    have HXA := hide ((unhide HX).below hbel)
    have HBA := hide (below_tr (unhide HB) hbel)
    by_cases hlt : k < ds.length
    case neg =>
      obtain rfl : k = ds.length := by omega
      rw [List.take_length] at hown
      have HOW := hide hown
      have HSZ := hide (unhide HB).size
      clear hown hbel
      have x0c := (unhide HXA).cell 0 rfl
      have x1c := (unhide HXA).cell 1 rfl
      have x2c := (unhide HXA).cell 2 rfl
      have x3c := (unhide HXA).cell 3 rfl
      have x4c := (unhide HXA).cell 4 rfl
      have x5c := (unhide HXA).cell 5 rfl
      go_wp2_with fail
      go_ret
      exact ⟨_, rfl, (unhide HOW).mono (unhide HSZ), unhide HBA⟩
    have e0 : (0 : Int) ≤ (k : Int) := by omega
    have e1 : (k : Int) < (ds.length : Int) := by omega
    obtain ⟨b, off, rfl, hc⟩ := unhide HR (by intro e; subst e; simp at hlt)
    obtain ⟨⟨x0, x1, x2, x3, x4⟩, hx⟩ := atDD hlt
    obtain ⟨g0, g1, g2, g3, g4⟩ := d_cells (unhide HBA) hc hx
    have HFX : Hid (Fit64 x0) := (unhide HF _ (List.mem_of_getElem? hx)).1
    have hlen : (forOf (ds.take k) u).length ≤ k := Nat.le_trans (forOf_len _ _) (by rw [List.length_take]; omega)
    have HOW := hide hown
    have HBE := hide hbel
    clear hown hbel hc
    by_cases hu : x3 = u
    case pos =>
      have HT := hide (forOf_hit hx hu)
      have hb : (x3 == u) = true := by rw [beq_iff_eq]; exact hu
      clear hu
      clear hx
      generalize hzz : forOf (ds.take k) u = zs at *
      clear hzz
      have HB2 := hide (below_al (o := (.cells #[.int .i64 x0, .int .i64 x1, .int .i64 x2, .int .i64 x3, .int .i64 x4] 105)) (unhide HBE))
      have HO2 := hide ((unhide HOW).below (below_a (.cells #[.int .i64 x0, .int .i64 x1, .int .i64 x2, .int .i64 x3, .int .i64 x4] 105)))
      clear HBE HOW
      have hsz2 := (unhide HB2).size
      (try simp only [World.size_alloc] at hsz2)
      have x0c := (unhide HXA).cell 0 rfl
      have x1c := (unhide HXA).cell 1 rfl
      have x2c := (unhide HXA).cell 2 rfl
      have x3c := (unhide HXA).cell 3 rfl
      have x4c := (unhide HXA).cell 4 rfl
      have x5c := (unhide HXA).cell 5 rfl
      go_wp2_with (first | (at_builtin; refine wpList_append_own _ rfl _ _ 39 rfl WB.heap.size 3 i0 (.int .i64 0) 1 8 Try.underlying39 hi hz0 hz1 hz2 rfl (by decide) _ _ _ rfl ((unhide HO2).2.alloc _) ⟨WA.heap.size + 1, 0, none⟩ 1 1 [.int .i64 x0] rfl rfl (news_new (by simp)) (by simp [Value.oneCell']) (by unfold maxLen; omega) (by omega) (by first | omega | (simp; omega)) ?_; intro v' w4 hown' hgrow _) | fail)
      (try clear x0c x1c x2c x3c x4c x5c)
      have hfin := own_fin2 (unhide HB2) (unhide HO2) (unhide HFX) hown' hgrow
      have H1 := hide hfin
      clear hfin hown' hgrow hsz2 g0 g1 g2 g3 g4 HXA
      (try go_wp2_with fail)
      go_roundw
      case rel => exact ⟨k + 1, by omega, by go_num, by rw [unhide HT]; exact (unhide H1).1, (unhide H1).2⟩
      case measure => simp [intOf]; omega
    have HT := hide (forOf_on hx hu)
    have hb : (x3 == u) = false := by rw [beq_eq_false_iff_ne]; exact hu
    clear hu
    clear hx hlen
    have x0c := (unhide HXA).cell 0 rfl
    have x1c := (unhide HXA).cell 1 rfl
    have x2c := (unhide HXA).cell 2 rfl
    have x3c := (unhide HXA).cell 3 rfl
    have x4c := (unhide HXA).cell 4 rfl
    have x5c := (unhide HXA).cell 5 rfl
    go_wp2_with fail
    (try clear x0c x1c x2c x3c x4c x5c)
    have HB2 := hide (below_al (o := (.cells #[.int .i64 x0, .int .i64 x1, .int .i64 x2, .int .i64 x3, .int .i64 x4] 105)) (unhide HBE))
    have HO2 := hide ((unhide HOW).below (below_a (.cells #[.int .i64 x0, .int .i64 x1, .int .i64 x2, .int .i64 x3, .int .i64 x4] 105)))
    clear HBE HOW HXA g0 g1 g2 g3 g4
    go_roundw
    case rel => exact ⟨k + 1, by omega, by go_num, by rw [unhide HT]; exact unhide HO2, unhide HB2⟩
    case measure => simp [intOf]; omega

set_option maxHeartbeats 8000000 in
theorem c88 (h : House) (q : HP) (w : World) (hs : h.ds.length ≤ 1048576) (hr : HRow w q h) : Calls Try.prog 88 #[hV q h] w (Told w (forOf h.ds 0)) := by
  obtain ⟨es, pu, ds, cl, nu, sa⟩ := h
  obtain ⟨a0, k0, a1, k1, a2, k2, a4, k4, a5, k5⟩ := q
  have HRR := hide hr
  have HR := hide hr.2.2.1.2
  have HF := hide hr.2.2.1.1
  clear hr
  obtain ⟨i0, hi, hz0, hz1, hz2⟩ := info_parts Try.info3
  dsimp only at hs HR HF ⊢
  have HB := hide (Below.refl w.heap.size w)
  replace HB := hide (below_al (o := .cells #[.slice a0 es.length k0, .slice a1 pu.length k1, .slice a2 ds.length k2, .int .i64 cl, .slice a4 nu.length k4, .slice a5 sa.length k5] 97) (unhide HB))
  have HX := hide (box_new w [.slice a0 es.length k0, .slice a1 pu.length k1, .slice a2 ds.length k2, .int .i64 cl, .slice a4 nu.length k4, .slice a5 sa.length k5] 97 (by simp [Value.oneCell']))
  (try simp only [World.size_alloc] at HX)
  have x0c := (unhide HX).cell 0 rfl
  have x1c := (unhide HX).cell 1 rfl
  have x2c := (unhide HX).cell 2 rfl
  have x3c := (unhide HX).cell 3 rfl
  have x4c := (unhide HX).cell 4 rfl
  have x5c := (unhide HX).cell 5 rfl
  go_enter Try.func88, Try.ntmps88
  go_wp2_with fail
  (try clear x0c x1c x2c x3c x4c x5c)
  have hlx := (unhide HX).lt
  have hws : (w.alloc (.cells #[.slice a0 es.length k0, .slice a1 pu.length k1, .slice a2 ds.length k2, .int .i64 cl, .slice a4 nu.length k4, .slice a5 sa.length k5] 97)).heap.size = w.heap.size + 1 := by simp
  generalize hWB : w.alloc (.cells #[.slice a0 es.length k0, .slice a1 pu.length k1, .slice a2 ds.length k2, .int .i64 cl, .slice a4 nu.length k4, .slice a5 sa.length k5] 97) = WB at *
  clear hWB
  (try simp only [World.size_alloc] at hlx)
  go_loopw [3, 4] (fun v i wr => ∃ k : Nat, k ≤ ds.length ∧ i = .int .i64 k ∧ Own wr WB.heap.size v (forOf (ds.take k) 0) ∧ Below WB.heap.size WB wr) (fun _ i _ => ds.length - (intOf i).toNat)
  case atStart => exact ⟨0, Nat.zero_le _, rfl, (by rw [show forOf (ds.take 0) 0 = [] by simp [forOf], ← hws]; exact own_empty _ _ (Nat.le_refl _)), below_a _⟩
  case round =>
    obtain ⟨k, hk, rfl, hown, hbel⟩ := hrel
    obtain ⟨WA, hWA⟩ : ∃ x, x = wr := ⟨_, rfl⟩
    subst hWA
    have HXA := hide ((unhide HX).below hbel)
    have HBA := hide (below_tr (unhide HB) hbel)
    by_cases hlt : k < ds.length
    case neg =>
      obtain rfl : k = ds.length := by omega
      rw [List.take_length] at hown
      have HOW := hide hown
      have HSZ := hide (unhide HB).size
      clear hown hbel
      have x0c := (unhide HXA).cell 0 rfl
      have x1c := (unhide HXA).cell 1 rfl
      have x2c := (unhide HXA).cell 2 rfl
      have x3c := (unhide HXA).cell 3 rfl
      have x4c := (unhide HXA).cell 4 rfl
      have x5c := (unhide HXA).cell 5 rfl
      go_wp2_with fail
      go_ret
      exact ⟨_, rfl, (unhide HOW).mono (unhide HSZ), unhide HBA⟩
    have e0 : (0 : Int) ≤ (k : Int) := by omega
    have e1 : (k : Int) < (ds.length : Int) := by omega
    obtain ⟨b, off, rfl, hc⟩ := unhide HR (by intro e; subst e; simp at hlt)
    obtain ⟨⟨x0, x1, x2, x3, x4⟩, hx⟩ := atDD hlt
    obtain ⟨g0, g1, g2, g3, g4⟩ := d_cells (unhide HBA) hc hx
    have HFX : Hid (Fit64 x0) := (unhide HF _ (List.mem_of_getElem? hx)).1
    have hlen : (forOf (ds.take k) 0).length ≤ k := Nat.le_trans (forOf_len _ _) (by rw [List.length_take]; omega)
    have HOW := hide hown
    have HBE := hide hbel
    clear hown hbel hc
    by_cases hu : x3 = 0
    case pos =>
      have HT := hide (forOf_hit hx hu)
      have hb : (x3 == 0) = true := by rw [beq_iff_eq]; exact hu
      clear hu
      clear hx
      generalize hzz : forOf (ds.take k) 0 = zs at *
      clear hzz
      have HB2 := HBE
      have HO2 := HOW
      clear HBE HOW
      have hsz2 := (unhide HB2).size
      (try simp only [World.size_alloc] at hsz2)
      have x0c := (unhide HXA).cell 0 rfl
      have x1c := (unhide HXA).cell 1 rfl
      have x2c := (unhide HXA).cell 2 rfl
      have x3c := (unhide HXA).cell 3 rfl
      have x4c := (unhide HXA).cell 4 rfl
      have x5c := (unhide HXA).cell 5 rfl
      go_wp2_with (first | (at_builtin; refine wpList_append_own _ rfl _ _ 39 rfl WB.heap.size 3 i0 (.int .i64 0) 1 8 Try.underlying39 hi hz0 hz1 hz2 rfl (by decide) _ _ _ rfl ((unhide HO2).2.alloc _) ⟨WA.heap.size, 0, none⟩ 1 1 [.int .i64 x0] rfl rfl (news_new (by simp)) (by simp [Value.oneCell']) (by unfold maxLen; omega) (by omega) (by first | omega | (simp; omega)) ?_; intro v' w4 hown' hgrow _) | fail)
      (try clear x0c x1c x2c x3c x4c x5c)
      have hfin := own_fin2 (unhide HB2) (unhide HO2) (unhide HFX) hown' hgrow
      have H1 := hide hfin
      clear hfin hown' hgrow hsz2 g0 g1 g2 g3 g4 HXA
      (try go_wp2_with fail)
      go_roundw
      case rel => exact ⟨k + 1, by omega, by go_num, by rw [unhide HT]; exact (unhide H1).1, (unhide H1).2⟩
      case measure => simp [intOf]; omega
    have HT := hide (forOf_on hx hu)
    have hb : (x3 == 0) = false := by rw [beq_eq_false_iff_ne]; exact hu
    clear hu
    clear hx hlen
    have x0c := (unhide HXA).cell 0 rfl
    have x1c := (unhide HXA).cell 1 rfl
    have x2c := (unhide HXA).cell 2 rfl
    have x3c := (unhide HXA).cell 3 rfl
    have x4c := (unhide HXA).cell 4 rfl
    have x5c := (unhide HXA).cell 5 rfl
    go_wp2_with fail
    (try clear x0c x1c x2c x3c x4c x5c)
    have HB2 := HBE
    have HO2 := HOW
    clear HBE HOW HXA g0 g1 g2 g3 g4
    go_roundw
    case rel => exact ⟨k + 1, by omega, by go_num, by rw [unhide HT]; exact unhide HO2, unhide HB2⟩
    case measure => simp [intOf]; omega

set_option maxHeartbeats 8000000 in
theorem c93 (h : House) (q : HP) (u : Int) (w : World) (hs : h.ds.length ≤ 1048576) (hr : HRow w q h) : Calls Try.prog 93 #[hV q h, .int .i64 u] w (Told w (mktFor h.ds u)) := by
  obtain ⟨es, pu, ds, cl, nu, sa⟩ := h
  obtain ⟨a0, k0, a1, k1, a2, k2, a4, k4, a5, k5⟩ := q
  have HRR := hide hr
  have HR := hide hr.2.2.1.2
  have HF := hide hr.2.2.1.1
  clear hr
  obtain ⟨i0, hi, hz0, hz1, hz2⟩ := info_parts Try.info3
  dsimp only at hs HR HF ⊢
  have HB := hide (Below.refl w.heap.size w)
  replace HB := hide (below_al (o := .cells #[.slice a0 es.length k0, .slice a1 pu.length k1, .slice a2 ds.length k2, .int .i64 cl, .slice a4 nu.length k4, .slice a5 sa.length k5] 97) (unhide HB))
  have HX := hide (box_new w [.slice a0 es.length k0, .slice a1 pu.length k1, .slice a2 ds.length k2, .int .i64 cl, .slice a4 nu.length k4, .slice a5 sa.length k5] 97 (by simp [Value.oneCell']))
  (try simp only [World.size_alloc] at HX)
  have x0c := (unhide HX).cell 0 rfl
  have x1c := (unhide HX).cell 1 rfl
  have x2c := (unhide HX).cell 2 rfl
  have x3c := (unhide HX).cell 3 rfl
  have x4c := (unhide HX).cell 4 rfl
  have x5c := (unhide HX).cell 5 rfl
  go_enter Try.func93, Try.ntmps93
  go_wp2_with fail
  (try clear x0c x1c x2c x3c x4c x5c)
  have hlx := (unhide HX).lt
  have hws : (w.alloc (.cells #[.slice a0 es.length k0, .slice a1 pu.length k1, .slice a2 ds.length k2, .int .i64 cl, .slice a4 nu.length k4, .slice a5 sa.length k5] 97)).heap.size = w.heap.size + 1 := by simp
  generalize hWB : w.alloc (.cells #[.slice a0 es.length k0, .slice a1 pu.length k1, .slice a2 ds.length k2, .int .i64 cl, .slice a4 nu.length k4, .slice a5 sa.length k5] 97) = WB at *
  clear hWB
  (try simp only [World.size_alloc] at hlx)
  go_loopw [5, 6] (fun v i wr => ∃ k : Nat, k ≤ ds.length ∧ i = .int .i64 k ∧ Own wr WB.heap.size v (mktFor (ds.take k) u) ∧ Below WB.heap.size WB wr) (fun _ i _ => ds.length - (intOf i).toNat)
  case atStart => exact ⟨0, Nat.zero_le _, rfl, (by rw [show mktFor (ds.take 0) u = [] by simp [mktFor, forOf], ← hws]; exact own_empty _ _ (Nat.le_refl _)), below_a _⟩
  case round =>
    obtain ⟨k, hk, rfl, hown, hbel⟩ := hrel
    obtain ⟨WA, hWA⟩ : ∃ x, x = wr := ⟨_, rfl⟩
    subst hWA
    have HXA := hide ((unhide HX).below hbel)
    have HBA := hide (below_tr (unhide HB) hbel)
    by_cases hlt : k < ds.length
    case neg =>
      obtain rfl : k = ds.length := by omega
      rw [List.take_length] at hown
      have HOW := hide hown
      have HSZ := hide (unhide HB).size
      clear hown hbel
      have x0c := (unhide HXA).cell 0 rfl
      have x1c := (unhide HXA).cell 1 rfl
      have x2c := (unhide HXA).cell 2 rfl
      have x3c := (unhide HXA).cell 3 rfl
      have x4c := (unhide HXA).cell 4 rfl
      have x5c := (unhide HXA).cell 5 rfl
      go_wp2_with fail
      go_ret
      exact ⟨_, rfl, (unhide HOW).mono (unhide HSZ), unhide HBA⟩
    have e0 : (0 : Int) ≤ (k : Int) := by omega
    have e1 : (k : Int) < (ds.length : Int) := by omega
    obtain ⟨b, off, rfl, hc⟩ := unhide HR (by intro e; subst e; simp at hlt)
    obtain ⟨⟨x0, x1, x2, x3, x4⟩, hx⟩ := atDD hlt
    obtain ⟨g0, g1, g2, g3, g4⟩ := d_cells (unhide HBA) hc hx
    have HFX : Hid (Fit64 x0) := (unhide HF _ (List.mem_of_getElem? hx)).1
    have hlen : (mktFor (ds.take k) u).length ≤ k := Nat.le_trans (mktFor_len _ _) (by rw [List.length_take]; omega)
    have HOW := hide hown
    have HBE := hide hbel
    clear hown hbel hc
    by_cases h0 : x3 = 0
    case pos =>
      have HT := hide (mktFor_on (u := u) hx (fun z => z.1 h0))
      have hb : (x3 != 0) = false := by rw [bne_eq_false_iff_eq]; exact h0
      clear h0
      clear hx hlen
      have x0c := (unhide HXA).cell 0 rfl
      have x1c := (unhide HXA).cell 1 rfl
      have x2c := (unhide HXA).cell 2 rfl
      have x3c := (unhide HXA).cell 3 rfl
      have x4c := (unhide HXA).cell 4 rfl
      have x5c := (unhide HXA).cell 5 rfl
      go_wp2_with fail
      (try clear x0c x1c x2c x3c x4c x5c)
      have HB2 := HBE
      have HO2 := HOW
      clear HBE HOW HXA g0 g1 g2 g3 g4
      go_roundw
      case rel => exact ⟨k + 1, by omega, by go_num, by rw [unhide HT]; exact unhide HO2, unhide HB2⟩
      case measure => simp [intOf]; omega
    have hb0 : (x3 != 0) = true := by rw [bne_iff_ne]; exact h0
    by_cases hu : x3 = u
    case pos =>
      have HT := hide (mktFor_hit hx (fun z => h0 (hu.trans z)) hu)
      have hb : (x3 == u) = true := by rw [beq_iff_eq]; exact hu
      clear hu h0
      clear hx
      generalize hzz : mktFor (ds.take k) u = zs at *
      clear hzz
      have HB2 := HBE
      have HO2 := HOW
      clear HBE HOW
      have hsz2 := (unhide HB2).size
      (try simp only [World.size_alloc] at hsz2)
      have x0c := (unhide HXA).cell 0 rfl
      have x1c := (unhide HXA).cell 1 rfl
      have x2c := (unhide HXA).cell 2 rfl
      have x3c := (unhide HXA).cell 3 rfl
      have x4c := (unhide HXA).cell 4 rfl
      have x5c := (unhide HXA).cell 5 rfl
      go_wp2_with (first | (at_builtin; refine wpList_append_own _ rfl _ _ 39 rfl WB.heap.size 3 i0 (.int .i64 0) 1 8 Try.underlying39 hi hz0 hz1 hz2 rfl (by decide) _ _ _ rfl ((unhide HO2).2.alloc _) ⟨WA.heap.size, 0, none⟩ 1 1 [.int .i64 x0] rfl rfl (news_new (by simp)) (by simp [Value.oneCell']) (by unfold maxLen; omega) (by omega) (by first | omega | (simp; omega)) ?_; intro v' w4 hown' hgrow _) | fail)
      (try clear x0c x1c x2c x3c x4c x5c)
      have hfin := own_fin2 (unhide HB2) (unhide HO2) (unhide HFX) hown' hgrow
      have H1 := hide hfin
      clear hfin hown' hgrow hsz2 g0 g1 g2 g3 g4 HXA
      (try go_wp2_with fail)
      go_roundw
      case rel => exact ⟨k + 1, by omega, by go_num, by rw [unhide HT]; exact (unhide H1).1, (unhide H1).2⟩
      case measure => simp [intOf]; omega
    have HT := hide (mktFor_on hx (fun z => hu z.2))
    have hb : (x3 == u) = false := by rw [beq_eq_false_iff_ne]; exact hu
    clear hu h0
    clear hx hlen
    have x0c := (unhide HXA).cell 0 rfl
    have x1c := (unhide HXA).cell 1 rfl
    have x2c := (unhide HXA).cell 2 rfl
    have x3c := (unhide HXA).cell 3 rfl
    have x4c := (unhide HXA).cell 4 rfl
    have x5c := (unhide HXA).cell 5 rfl
    go_wp2_with fail
    (try clear x0c x1c x2c x3c x4c x5c)
    have HB2 := HBE
    have HO2 := HOW
    clear HBE HOW HXA g0 g1 g2 g3 g4
    go_roundw
    case rel => exact ⟨k + 1, by omega, by go_num, by rw [unhide HT]; exact unhide HO2, unhide HB2⟩
    case measure => simp [intOf]; omega

set_option maxHeartbeats 4000000 in
theorem c89 (h : House) (q : HP) (w : World) (hs : h.ds.length ≤ 1048576) (hr : HRow w q h) : Calls Try.prog 89 #[hV q h] w (Told w (forOf h.ds 0)) := by
  obtain ⟨es, pu, ds, cl, nu, sa⟩ := h
  obtain ⟨a0, k0, a1, k1, a2, k2, a4, k4, a5, k5⟩ := q
  have HRR := hide hr
  have HR := hide hr.2.2.1.2
  have HF := hide hr.2.2.1.1
  clear hr
  obtain ⟨i0, hi, hz0, hz1, hz2⟩ := info_parts Try.info3
  dsimp only at hs HR HF ⊢
  have HB := hide (Below.refl w.heap.size w)
  replace HB := hide (below_al (o := .cells #[.slice a0 es.length k0, .slice a1 pu.length k1, .slice a2 ds.length k2, .int .i64 cl, .slice a4 nu.length k4, .slice a5 sa.length k5] 97) (unhide HB))
  have HX := hide (box_new w [.slice a0 es.length k0, .slice a1 pu.length k1, .slice a2 ds.length k2, .int .i64 cl, .slice a4 nu.length k4, .slice a5 sa.length k5] 97 (by simp [Value.oneCell']))
  (try simp only [World.size_alloc] at HX)
  have x0c := (unhide HX).cell 0 rfl
  have x1c := (unhide HX).cell 1 rfl
  have x2c := (unhide HX).cell 2 rfl
  have x3c := (unhide HX).cell 3 rfl
  have x4c := (unhide HX).cell 4 rfl
  have x5c := (unhide HX).cell 5 rfl
  go_enter Try.func89, Try.ntmps89
  go_wp2_with fail
  refine (c179 ⟨es, pu, ds, cl, nu, sa⟩ ⟨a0, k0, a1, k1, a2, k2, a4, k4, a5, k5⟩ 0 _ hs ((unhide HRR).bel (unhide HB))).mono ?_
  rintro e w1 ⟨v, rfl, ho, hb⟩
  (try clear x0c x1c x2c x3c x4c x5c)
  have HF2 := hide (below_tr (unhide HB) hb)
  have HO2 := hide (ho.mono (unhide HB).size)
  clear hb ho
  go_wp2_with fail
  go_ret
  exact ⟨_, rfl, unhide HO2, unhide HF2⟩

set_option maxHeartbeats 4000000 in
theorem c94 (h : House) (q : HP) (u : Int) (w : World) (hs : h.ds.length ≤ 1048576) (hr : HRow w q h) : Calls Try.prog 94 #[hV q h, .int .i64 u] w (Told w (mktFor h.ds u)) := by
  obtain ⟨es, pu, ds, cl, nu, sa⟩ := h
  obtain ⟨a0, k0, a1, k1, a2, k2, a4, k4, a5, k5⟩ := q
  have HRR := hide hr
  have HR := hide hr.2.2.1.2
  have HF := hide hr.2.2.1.1
  clear hr
  obtain ⟨i0, hi, hz0, hz1, hz2⟩ := info_parts Try.info3
  dsimp only at hs HR HF ⊢
  have HB := hide (Below.refl w.heap.size w)
  replace HB := hide (below_al (o := .cells #[.slice a0 es.length k0, .slice a1 pu.length k1, .slice a2 ds.length k2, .int .i64 cl, .slice a4 nu.length k4, .slice a5 sa.length k5] 97) (unhide HB))
  have HX := hide (box_new w [.slice a0 es.length k0, .slice a1 pu.length k1, .slice a2 ds.length k2, .int .i64 cl, .slice a4 nu.length k4, .slice a5 sa.length k5] 97 (by simp [Value.oneCell']))
  (try simp only [World.size_alloc] at HX)
  by_cases h0 : u = 0
  case pos =>
    subst h0
    have HT : Hid (mktFor ds 0 = []) := by unfold Hid mktFor; rw [if_pos rfl]
    have x0c := (unhide HX).cell 0 rfl
    have x1c := (unhide HX).cell 1 rfl
    have x2c := (unhide HX).cell 2 rfl
    have x3c := (unhide HX).cell 3 rfl
    have x4c := (unhide HX).cell 4 rfl
    have x5c := (unhide HX).cell 5 rfl
    go_enter Try.func94, Try.ntmps94
    go_wp2_with fail
    go_ret
    exact ⟨_, rfl, by rw [unhide HT]; exact own_none _ _ (unhide HB).size, unhide HB⟩
  have hb0 : (u == 0) = false := by rw [beq_eq_false_iff_ne]; exact h0
  have HT : Hid (mktFor ds u = forOf ds u) := by unfold Hid mktFor; rw [if_neg h0]
  rw [unhide HT]
  clear h0
  have x0c := (unhide HX).cell 0 rfl
  have x1c := (unhide HX).cell 1 rfl
  have x2c := (unhide HX).cell 2 rfl
  have x3c := (unhide HX).cell 3 rfl
  have x4c := (unhide HX).cell 4 rfl
  have x5c := (unhide HX).cell 5 rfl
  go_enter Try.func94, Try.ntmps94
  go_wp2_with fail
  refine (c179 ⟨es, pu, ds, cl, nu, sa⟩ ⟨a0, k0, a1, k1, a2, k2, a4, k4, a5, k5⟩ u _ hs ((unhide HRR).bel (unhide HB))).mono ?_
  rintro e w1 ⟨v, rfl, ho, hb⟩
  (try clear x0c x1c x2c x3c x4c x5c)
  have HF2 := hide (below_tr (unhide HB) hb)
  have HO2 := hide (ho.mono (unhide HB).size)
  clear hb ho
  go_wp2_with fail
  go_ret
  exact ⟨_, rfl, unhide HO2, unhide HF2⟩
end Go.Proofs.Ytdpkdcdieajkbaa
