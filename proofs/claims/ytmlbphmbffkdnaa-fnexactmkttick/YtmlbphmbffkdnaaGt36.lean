/-
  Texts of the proof, what it needs of them: Mokn.
-/
import Derived.Test.YtmlbphmbffkdnaaGt34
import Derived.Test.YtmlbphmbffkdnaaGt35
namespace Go.Proofs.Ytmlbphmbffkdnaa
open Go.RowKit
set_option linter.unusedVariables false
set_option maxRecDepth 100000

/-- what is held, as the program sums it up -/
def heldSum (ds : List Tm.Deal) : Int := ds.foldl (fun s d => if d.2.2.2.1 = 0 then s else s + d.2.2.1) 0
theorem held_hit {ds : List Tm.Deal} {k : Nat} {x0 x1 x2 x3 x4 : Int} (h : ds[k]? = some (x0, x1, x2, x3, x4)) (hu : ¬ x3 = 0) : heldSum (ds.take (k + 1)) = heldSum (ds.take k) + x2 := by
  unfold heldSum
  rw [List.take_add_one, h, List.foldl_append]
  simp [hu]
theorem held_on {ds : List Tm.Deal} {k : Nat} {x0 x1 x2 x3 x4 : Int} (h : ds[k]? = some (x0, x1, x2, x3, x4)) (hu : x3 = 0) : heldSum (ds.take (k + 1)) = heldSum (ds.take k) := by
  unfold heldSum
  rw [List.take_add_one, h, List.foldl_append]
  simp [hu]
theorem held_bd {ds : List Tm.Deal} (hp : ∀ d ∈ ds, 0 ≤ d.2.2.1 ∧ d.2.2.1 ≤ 100 ∧ 0 ≤ d.2.2.2.1) : ∀ k, k ≤ ds.length → 0 ≤ heldSum (ds.take k) ∧ heldSum (ds.take k) ≤ 100 * (k : Int) := by
  intro k
  induction k with
  | zero => intro _; simp [heldSum]
  | succ k ih =>
    intro hk
    obtain ⟨⟨x0, x1, x2, x3, x4⟩, hx⟩ := atDD (show k < ds.length by omega)
    have h1 := hp _ (List.mem_of_getElem? hx)
    have h2 := ih (by omega)
    dsimp only at h1
    by_cases h : x3 = 0
    · rw [held_on hx h]; omega
    · rw [held_hit hx h]; omega
/-- prices are small, and buyers no less than none -/
def Prices (ds : List Tm.Deal) : Prop := ∀ d ∈ ds, 0 ≤ d.2.2.1 ∧ d.2.2.1 ≤ 100 ∧ 0 ≤ d.2.2.2.1
/-- a last number and what was answered to it -/
def numAt (n s : Int) : Bool := decide (0 ≤ n ∧ n ≤ 99999) && (decide (0 ≤ s ∧ s ≤ 6) && (decide (n = 0) == decide (s = 0)))
def numsAll (nu sa : List Int) : Bool := (List.range 5).all (fun i => numAt (nu.getD i 0) (sa.getD i 0))
def numsOk (nu sa : List Int) : Bool := decide (nu.length = 5) && (decide (sa.length = 5) && numsAll nu sa)
/-- those up to the k-th are -/
def numsTo (nu sa : List Int) (k : Nat) : Bool := (List.range k).all (fun i => numAt (nu.getD i 0) (sa.getD i 0))
theorem numsTo_succ (nu sa : List Int) (k : Nat) : numsTo nu sa (k + 1) = (numsTo nu sa k && numAt (nu.getD k 0) (sa.getD k 0)) := by unfold numsTo; rw [List.range_succ, List.all_append]; simp
theorem nums_bad {nu sa : List Int} {k : Nat} (hk : k < 5) (h : numAt (nu.getD k 0) (sa.getD k 0) = false) : numsOk nu sa = false := by
  have : numsAll nu sa = false := by
    unfold numsAll
    rw [List.all_eq_false]
    exact ⟨k, List.mem_range.2 hk, by rw [h]; simp⟩
  unfold numsOk; rw [this]; simp
theorem nums_len1 {nu sa : List Int} (h : ¬ nu.length = 5) : numsOk nu sa = false := by unfold numsOk; rw [decide_eq_false h]; rfl
theorem nums_len2 {nu sa : List Int} (h : ¬ sa.length = 5) : numsOk nu sa = false := by unfold numsOk; rw [decide_eq_false h]; simp
theorem nums_all {nu sa : List Int} (h1 : nu.length = 5) (h2 : sa.length = 5) (h : numsTo nu sa 5 = true) : numsOk nu sa = true := by unfold numsOk; rw [decide_eq_true h1, decide_eq_true h2]; exact h
theorem na_1 {n s : Int} (h : decide (0 ≤ n ∧ n ≤ 99999) = false) : numAt n s = false := by unfold numAt; rw [h]; rfl
theorem na_2 {n s : Int} (h : decide (0 ≤ s ∧ s ≤ 6) = false) : numAt n s = false := by unfold numAt; rw [h]; simp
theorem na_3 {n s : Int} (h1 : decide (0 ≤ n ∧ n ≤ 99999) = true) (h : decide (0 ≤ s ∧ s ≤ 6) = true) : numAt n s = (decide (n = 0) == decide (s = 0)) := by unfold numAt; rw [h1, h]; rfl
/-- deals: each about a ticket, each behind the one ahead, each as its ticket stands -/
def dealsFrom (rs : List Tm.Rw) (c : Int) (l : Int) : List Tm.Deal → Bool
  | [] => true
  | d :: t => decide (0 ≤ d.1 ∧ d.1 ≤ 7) && (decide (l < d.1) && (dealOk (rs.getD d.1.toNat (0, 0, false)) c d && dealsFrom rs c d.1 t))
theorem df_1 {rs : List Tm.Rw} {c l x0 x1 x2 x3 x4 : Int} {t : List Tm.Deal} (h : decide (0 ≤ x0 ∧ x0 ≤ 7) = false) : dealsFrom rs c l ((x0, x1, x2, x3, x4) :: t) = false := by unfold dealsFrom; rw [h]; rfl
theorem df_2 {rs : List Tm.Rw} {c l x0 x1 x2 x3 x4 : Int} {t : List Tm.Deal} (h : x0 ≤ l) : dealsFrom rs c l ((x0, x1, x2, x3, x4) :: t) = false := by unfold dealsFrom; rw [decide_eq_false (show ¬ l < x0 by omega)]; simp
theorem df_3 {rs : List Tm.Rw} {c l x0 x1 x2 x3 x4 : Int} {t : List Tm.Deal} {r : Tm.Rw} (hr : rs.getD x0.toNat (0, 0, false) = r) (h : dealOk r c (x0, x1, x2, x3, x4) = false) : dealsFrom rs c l ((x0, x1, x2, x3, x4) :: t) = false := by unfold dealsFrom; dsimp only; rw [hr, h]; simp
theorem df_on {rs : List Tm.Rw} {c l x0 x1 x2 x3 x4 : Int} {t : List Tm.Deal} {r : Tm.Rw} (h1 : decide (0 ≤ x0 ∧ x0 ≤ 7) = true) (h2 : ¬ x0 ≤ l) (hr : rs.getD x0.toNat (0, 0, false) = r) (h : dealOk r c (x0, x1, x2, x3, x4) = true) : dealsFrom rs c l ((x0, x1, x2, x3, x4) :: t) = dealsFrom rs c x0 t := by
  rw [dealsFrom]; dsimp only; rw [hr, h, h1, decide_eq_true (show l < x0 by omega)]; rfl

set_option maxHeartbeats 8000000 in
theorem c29 (h : House) (q : HP) (w : World) (hs : h.ds.length ≤ 8) (hp : Prices h.ds) (hr : HRow w q h) : Calls Try.prog 29 #[hV q h] w fun e w' => e = .returned (.int .i64 (heldSum h.ds)) ∧ Below w.heap.size w w' := by
  obtain ⟨es, pu, ds, cl, nu, sa⟩ := h
  obtain ⟨a0, k0, a1, k1, a2, k2, a4, k4, a5, k5⟩ := q
  have HRR := hide hr
  clear hr
  dsimp only at hs hp ⊢
  have HB := hide (Below.refl w.heap.size w)
  have HR := hide (unhide HRR).2.2.1.2
  dsimp only at HR
  have HP := hide hp
  have HBD := hide (held_bd hp)
  clear hp
  replace HB := hide (below_al (o := .cells #[.slice a0 es.length k0, .slice a1 pu.length k1, .slice a2 ds.length k2, .int .i64 cl, .slice a4 nu.length k4, .slice a5 sa.length k5] 28) (unhide HB))
  have HX := hide (box_new w [.slice a0 es.length k0, .slice a1 pu.length k1, .slice a2 ds.length k2, .int .i64 cl, .slice a4 nu.length k4, .slice a5 sa.length k5] 28 (by simp [Value.oneCell']))
  (try simp only [World.size_alloc] at HX)
  have x0c := (unhide HX).cell 0 rfl
  have x1c := (unhide HX).cell 1 rfl
  have x2c := (unhide HX).cell 2 rfl
  have x3c := (unhide HX).cell 3 rfl
  have x4c := (unhide HX).cell 4 rfl
  have x5c := (unhide HX).cell 5 rfl
  go_enter Try.func29, Try.ntmps29
  go_wp2_with fail
  (try clear x0c x1c x2c x3c x4c x5c)
  generalize hWB : w.alloc (.cells #[.slice a0 es.length k0, .slice a1 pu.length k1, .slice a2 ds.length k2, .int .i64 cl, .slice a4 nu.length k4, .slice a5 sa.length k5] 28) = WB at *
  clear hWB
  go_loopw [3, 9] (fun v i wr => ∃ k : Nat, k ≤ ds.length ∧ i = .int .i64 k ∧ v = .int .i64 (heldSum (ds.take k)) ∧ Below WB.heap.size WB wr) (fun _ i _ => ds.length - (intOf i).toNat)
  case atStart => exact ⟨0, Nat.zero_le _, rfl, rfl, Below.refl _ _⟩
  case round =>
    obtain ⟨k, hk, rfl, rfl, hbel⟩ := hrel
    obtain ⟨WA, hWA⟩ : ∃ x, x = wr := ⟨_, rfl⟩
    subst hWA
    have HXA := hide ((unhide HX).below hbel)
    have HBA := hide (below_tr (unhide HB) hbel)
    have HBE := hide hbel
    clear hbel
    by_cases hlt : k < ds.length
    case neg =>
      obtain rfl : k = ds.length := by omega
      rw [List.take_length]
      have x0c := (unhide HXA).cell 0 rfl
      have x1c := (unhide HXA).cell 1 rfl
      have x2c := (unhide HXA).cell 2 rfl
      have x3c := (unhide HXA).cell 3 rfl
      have x4c := (unhide HXA).cell 4 rfl
      have x5c := (unhide HXA).cell 5 rfl
      go_wp2_with fail
      go_ret
      exact ⟨rfl, unhide HBA⟩
    have e0 : (0 : Int) ≤ (k : Int) := by omega
    have e1 : (k : Int) < (ds.length : Int) := by omega
    obtain ⟨b, off, rfl, hc⟩ := unhide HR (by intro e; subst e; simp at hlt)
    obtain ⟨⟨x0, x1, x2, x3, x4⟩, hx⟩ := atDD hlt
    obtain ⟨g0, g1, g2, g3, g4⟩ := d_cells (unhide HBA) hc hx
    have hpx := unhide HP _ (List.mem_of_getElem? hx)
    dsimp only at hpx
    have hbd := unhide HBD k hk
    clear hc
    by_cases h3 : x3 = 0
    case pos =>
      have HT := hide (held_on hx h3)
      generalize heldSum (ds.take k) = s at *
      clear hx
      have HD := hide (box_new WA [.int .i64 x0, .int .i64 x1, .int .i64 x2, .int .i64 x3, .int .i64 x4] 42 (by simp [Value.oneCell']))
      replace HXA := hide ((unhide HXA).alloc (.cells #[.int .i64 x0, .int .i64 x1, .int .i64 x2, .int .i64 x3, .int .i64 x4] 42))
      replace HBE := hide (below_al (o := (.cells #[.int .i64 x0, .int .i64 x1, .int .i64 x2, .int .i64 x3, .int .i64 x4] 42)) (unhide HBE))
      have hz : (!decide (x3 = 0)) = false := by rw [decide_eq_true h3]; rfl
      clear h3
      have x0c := (unhide HXA).cell 0 rfl
      have x1c := (unhide HXA).cell 1 rfl
      have x2c := (unhide HXA).cell 2 rfl
      have x3c := (unhide HXA).cell 3 rfl
      have x4c := (unhide HXA).cell 4 rfl
      have x5c := (unhide HXA).cell 5 rfl
      have q0 := (unhide HD).cell 0 rfl
      have q1 := (unhide HD).cell 1 rfl
      have q2 := (unhide HD).cell 2 rfl
      have q3 := (unhide HD).cell 3 rfl
      have q4 := (unhide HD).cell 4 rfl
      go_wp2_with fail
      clear g0 g1 g2 g3 g4
      refine (c114 x0 x1 x2 x3 x4 _).mono ?_
      rintro e w1 ⟨rfl, hb⟩
      rw [hz]
      (try clear x0c x1c x2c x3c x4c x5c q0 q1 q2 q3 q4)
      replace HBE := hide (below_tr (unhide HBE) hb)
      replace HD := hide ((unhide HD).bel hb)
      clear hb HXA hz
      have q0 := (unhide HD).cell 0 rfl
      have q1 := (unhide HD).cell 1 rfl
      have q2 := (unhide HD).cell 2 rfl
      have q3 := (unhide HD).cell 3 rfl
      have q4 := (unhide HD).cell 4 rfl
      go_wp2_with fail
      (try clear q0 q1 q2 q3 q4)
      go_roundw
      case rel => exact ⟨k + 1, by omega, by go_num, by rw [unhide HT], unhide HBE⟩
      case measure => simp [intOf]; omega
    have HT := hide (held_hit hx h3)
    generalize heldSum (ds.take k) = s at *
    clear hx
    have hwr : IntKind.i64.wrap (s + x2) = s + x2 := wrap_sub (by omega) (by omega)
    have HD := hide (box_new WA [.int .i64 x0, .int .i64 x1, .int .i64 x2, .int .i64 x3, .int .i64 x4] 42 (by simp [Value.oneCell']))
    replace HXA := hide ((unhide HXA).alloc (.cells #[.int .i64 x0, .int .i64 x1, .int .i64 x2, .int .i64 x3, .int .i64 x4] 42))
    replace HBE := hide (below_al (o := (.cells #[.int .i64 x0, .int .i64 x1, .int .i64 x2, .int .i64 x3, .int .i64 x4] 42)) (unhide HBE))
    have hz : (!decide (x3 = 0)) = true := by rw [decide_eq_false h3]; rfl
    clear h3
    have x0c := (unhide HXA).cell 0 rfl
    have x1c := (unhide HXA).cell 1 rfl
    have x2c := (unhide HXA).cell 2 rfl
    have x3c := (unhide HXA).cell 3 rfl
    have x4c := (unhide HXA).cell 4 rfl
    have x5c := (unhide HXA).cell 5 rfl
    have q0 := (unhide HD).cell 0 rfl
    have q1 := (unhide HD).cell 1 rfl
    have q2 := (unhide HD).cell 2 rfl
    have q3 := (unhide HD).cell 3 rfl
    have q4 := (unhide HD).cell 4 rfl
    go_wp2_with fail
    clear g0 g1 g2 g3 g4
    refine (c114 x0 x1 x2 x3 x4 _).mono ?_
    rintro e w1 ⟨rfl, hb⟩
    rw [hz]
    (try clear x0c x1c x2c x3c x4c x5c q0 q1 q2 q3 q4)
    replace HBE := hide (below_tr (unhide HBE) hb)
    replace HD := hide ((unhide HD).bel hb)
    clear hb HXA hz
    have q0 := (unhide HD).cell 0 rfl
    have q1 := (unhide HD).cell 1 rfl
    have q2 := (unhide HD).cell 2 rfl
    have q3 := (unhide HD).cell 3 rfl
    have q4 := (unhide HD).cell 4 rfl
    go_wp2_with fail
    (try clear q0 q1 q2 q3 q4)
    go_roundw
    case rel => exact ⟨k + 1, by omega, by go_num, by rw [unhide HT], unhide HBE⟩
    case measure => simp [intOf]; omega

set_option maxHeartbeats 8000000 in
theorem c50 (h : House) (q : HP) (w : World) (hs : h.ds.length ≤ 8) (hp : Prices h.ds) (hr : HRow w q h) : Calls Try.prog 50 #[hV q h] w fun e w' => e = .returned (.int .i64 (heldSum h.ds)) ∧ Below w.heap.size w w' := by
  obtain ⟨es, pu, ds, cl, nu, sa⟩ := h
  obtain ⟨a0, k0, a1, k1, a2, k2, a4, k4, a5, k5⟩ := q
  have HRR := hide hr
  clear hr
  dsimp only at hs hp ⊢
  have HB := hide (Below.refl w.heap.size w)
  have HR := hide (unhide HRR).2.2.1.2
  dsimp only at HR
  have HP := hide hp
  have HBD := hide (held_bd hp)
  clear hp
  replace HB := hide (below_al (o := .cells #[.slice a0 es.length k0, .slice a1 pu.length k1, .slice a2 ds.length k2, .int .i64 cl, .slice a4 nu.length k4, .slice a5 sa.length k5] 28) (unhide HB))
  have HX := hide (box_new w [.slice a0 es.length k0, .slice a1 pu.length k1, .slice a2 ds.length k2, .int .i64 cl, .slice a4 nu.length k4, .slice a5 sa.length k5] 28 (by simp [Value.oneCell']))
  (try simp only [World.size_alloc] at HX)
  have x0c := (unhide HX).cell 0 rfl
  have x1c := (unhide HX).cell 1 rfl
  have x2c := (unhide HX).cell 2 rfl
  have x3c := (unhide HX).cell 3 rfl
  have x4c := (unhide HX).cell 4 rfl
  have x5c := (unhide HX).cell 5 rfl
  go_enter Try.func50, Try.ntmps50
  go_wp2_with fail
  (try clear x0c x1c x2c x3c x4c x5c)
  generalize hWB : w.alloc (.cells #[.slice a0 es.length k0, .slice a1 pu.length k1, .slice a2 ds.length k2, .int .i64 cl, .slice a4 nu.length k4, .slice a5 sa.length k5] 28) = WB at *
  clear hWB
  go_loopw [3, 4] (fun v i wr => ∃ k : Nat, k ≤ ds.length ∧ i = .int .i64 k ∧ v = .int .i64 (heldSum (ds.take k)) ∧ Below WB.heap.size WB wr) (fun _ i _ => ds.length - (intOf i).toNat)
  case atStart => exact ⟨0, Nat.zero_le _, rfl, rfl, Below.refl _ _⟩
  case round =>
    obtain ⟨k, hk, rfl, rfl, hbel⟩ := hrel
    obtain ⟨WA, hWA⟩ : ∃ x, x = wr := ⟨_, rfl⟩
    subst hWA
    have HXA := hide ((unhide HX).below hbel)
    have HBA := hide (below_tr (unhide HB) hbel)
    have HBE := hide hbel
    clear hbel
    by_cases hlt : k < ds.length
    case neg =>
      obtain rfl : k = ds.length := by omega
      rw [List.take_length]
      have x0c := (unhide HXA).cell 0 rfl
      have x1c := (unhide HXA).cell 1 rfl
      have x2c := (unhide HXA).cell 2 rfl
      have x3c := (unhide HXA).cell 3 rfl
      have x4c := (unhide HXA).cell 4 rfl
      have x5c := (unhide HXA).cell 5 rfl
      go_wp2_with fail
      go_ret
      exact ⟨rfl, unhide HBA⟩
    have e0 : (0 : Int) ≤ (k : Int) := by omega
    have e1 : (k : Int) < (ds.length : Int) := by omega
    obtain ⟨b, off, rfl, hc⟩ := unhide HR (by intro e; subst e; simp at hlt)
    obtain ⟨⟨x0, x1, x2, x3, x4⟩, hx⟩ := atDD hlt
    obtain ⟨g0, g1, g2, g3, g4⟩ := d_cells (unhide HBA) hc hx
    have hpx := unhide HP _ (List.mem_of_getElem? hx)
    dsimp only at hpx
    have hbd := unhide HBD k hk
    clear hc
    by_cases h3 : x3 = 0
    case pos =>
      have HT := hide (held_on hx h3)
      generalize heldSum (ds.take k) = s at *
      clear hx
      have hg3 : ¬ (0 : Int) < x3 := by omega
      clear h3
      have x0c := (unhide HXA).cell 0 rfl
      have x1c := (unhide HXA).cell 1 rfl
      have x2c := (unhide HXA).cell 2 rfl
      have x3c := (unhide HXA).cell 3 rfl
      have x4c := (unhide HXA).cell 4 rfl
      have x5c := (unhide HXA).cell 5 rfl
      go_wp2_with fail
      (try clear x0c x1c x2c x3c x4c x5c)
      go_roundw
      case rel => exact ⟨k + 1, by omega, by go_num, by rw [unhide HT], unhide HBE⟩
      case measure => simp [intOf]; omega
    have HT := hide (held_hit hx h3)
    generalize heldSum (ds.take k) = s at *
    clear hx
    have hwr : IntKind.i64.wrap (s + x2) = s + x2 := wrap_sub (by omega) (by omega)
    have hg3 : (0 : Int) < x3 := by omega
    clear h3
    have x0c := (unhide HXA).cell 0 rfl
    have x1c := (unhide HXA).cell 1 rfl
    have x2c := (unhide HXA).cell 2 rfl
    have x3c := (unhide HXA).cell 3 rfl
    have x4c := (unhide HXA).cell 4 rfl
    have x5c := (unhide HXA).cell 5 rfl
    go_wp2_with fail
    (try clear x0c x1c x2c x3c x4c x5c)
    go_roundw
    case rel => exact ⟨k + 1, by omega, by go_num, by rw [unhide HT], unhide HBE⟩
    case measure => simp [intOf]; omega
end Go.Proofs.Ytmlbphmbffkdnaa
