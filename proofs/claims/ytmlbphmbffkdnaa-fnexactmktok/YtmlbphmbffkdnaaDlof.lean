/-
  The deal about a ticket.
-/
import Derived.Test.YtmlbphmbffkdnaaDrg
import Derived.Test.YtmlbphmbffkdnaaHous
import Derived.Test.YtmlbphmbffkdnaaLsth
namespace Go.Proofs.Ytmlbphmbffkdnaa
open Go.RowKit
set_option linter.unusedVariables false
set_option maxRecDepth 100000

/-- where the first deal about a ticket stands; -1 if none does -/
def dFrom (t : Int) (k : Nat) : List Tm.Deal → Int
  | [] => -1
  | d :: r => if d.1 = t then (k : Int) else dFrom t (k + 1) r
def dFind (ds : List Tm.Deal) (t : Int) : Int := dFrom t 0 ds
def dealOf (ds : List Tm.Deal) (t : Int) : Tm.Deal := (ds.find? (fun d => decide (d.1 = t))).getD (0, 0, 0, 0, 0)
def dealIs (ds : List Tm.Deal) (t : Int) : Bool := (ds.find? (fun d => decide (d.1 = t))).isSome
theorem lt_of_getD {xs : List Tm.Deal} {k : Nat} {x : Tm.Deal} (h : xs[k]? = some x) : k < xs.length := (List.getElem?_eq_some_iff.1 h).1
theorem atDD {xs : List Tm.Deal} {k : Nat} (h : k < xs.length) : ∃ x, xs[k]? = some x := ⟨xs[k], List.getElem?_eq_getElem h⟩
theorem d_drop {hs : List Tm.Deal} {k : Nat} {x : Tm.Deal} (h : hs[k]? = some x) : hs.drop k = x :: hs.drop (k + 1) := by
  obtain ⟨hl, rfl⟩ := List.getElem?_eq_some_iff.1 h
  rw [List.drop_eq_getElem_cons hl]
theorem dFrom_hit {t : Int} {k : Nat} {d : Tm.Deal} {r : List Tm.Deal} (h : d.1 = t) : dFrom t k (d :: r) = (k : Int) := by unfold dFrom; rw [if_pos h]
theorem dFrom_on {t : Int} {k : Nat} {d : Tm.Deal} {r : List Tm.Deal} (h : ¬ d.1 = t) : dFrom t k (d :: r) = dFrom t (k + 1) r := by rw [dFrom, if_neg h]
theorem dFrom_spec (t : Int) : ∀ (ds : List Tm.Deal) (k : Nat), (dFrom t k ds = -1 ∧ ds.find? (fun d => decide (d.1 = t)) = none) ∨ ∃ i d, dFrom t k ds = ((k + i : Nat) : Int) ∧ ds[i]? = some d ∧ ds.find? (fun d => decide (d.1 = t)) = some d := by
  intro ds
  induction ds with
  | nil => intro k; exact Or.inl ⟨rfl, rfl⟩
  | cons x r ih =>
    intro k
    by_cases h : x.1 = t
    · exact Or.inr ⟨0, x, by rw [dFrom_hit h]; rfl, rfl, by rw [List.find?_cons_of_pos (by simpa using h)]⟩
    · rw [dFrom_on h, List.find?_cons_of_neg (by simpa using h)]
      rcases ih (k + 1) with ⟨h1, h2⟩ | ⟨i, d, h1, h2, h3⟩
      · exact Or.inl ⟨h1, h2⟩
      · exact Or.inr ⟨i + 1, d, by rw [h1]; congr 1; omega, by simpa using h2, h3⟩
theorem dFind_spec (ds : List Tm.Deal) (t : Int) : (dFind ds t = -1 ∧ dealOf ds t = (0, 0, 0, 0, 0) ∧ dealIs ds t = false) ∨ ∃ (i : Nat) (d : Tm.Deal), dFind ds t = (i : Int) ∧ ds[i]? = some d ∧ dealOf ds t = d ∧ dealIs ds t = true := by
  unfold dFind dealOf dealIs
  rcases dFrom_spec t ds 0 with ⟨h1, h2⟩ | ⟨i, d, h1, h2, h3⟩
  · exact Or.inl ⟨h1, by rw [h2]; rfl, by rw [h2]; rfl⟩
  · exact Or.inr ⟨i, d, by rw [h1]; congr 1; omega, h2, by rw [h3]; rfl, by rw [h3]; rfl⟩

set_option maxHeartbeats 2000000 in
theorem c181 (x0 x1 x2 x3 x4 t : Int) (B : Nat) (w : World) (hB : w.cell? ⟨B, 0, none⟩ = some (.int .i64 t)) :
    Calls Try.prog 181 #[dealV x0 x1 x2 x3 x4, .pointer (some ⟨B, 0, none⟩)] w fun e w' => e = .returned (.bool (decide (x0 = t))) ∧ Below w.heap.size w w' := by
  have HB := hide (Below.refl w.heap.size w)
  have hlt : B < w.heap.size := World.block_lt_of_cell? w _ hB
  replace HB := hide (below_al (o := .cells #[.int .i64 x0, .int .i64 x1, .int .i64 x2, .int .i64 x3, .int .i64 x4] 42) (unhide HB))
  have HX := hide (box_new w [.int .i64 x0, .int .i64 x1, .int .i64 x2, .int .i64 x3, .int .i64 x4] 42 (by simp [Value.oneCell']))
  (try simp only [World.size_alloc] at HX)
  by_cases h : x0 = t
  case pos =>
    have hb : (x0 == t) = true := by rw [beq_iff_eq]; exact h
    rw [decide_eq_true h]
    clear h
    have x0c := (unhide HX).cell 0 rfl
    have x1c := (unhide HX).cell 1 rfl
    have x2c := (unhide HX).cell 2 rfl
    have x3c := (unhide HX).cell 3 rfl
    have x4c := (unhide HX).cell 4 rfl
    go_enter Try.func181, Try.ntmps181
    go_wp2_with fail
    go_ret
    exact ⟨rfl, unhide HB⟩
  have hb : (x0 == t) = false := by rw [beq_eq_false_iff_ne]; exact h
  rw [decide_eq_false h]
  clear h
  have x0c := (unhide HX).cell 0 rfl
  have x1c := (unhide HX).cell 1 rfl
  have x2c := (unhide HX).cell 2 rfl
  have x3c := (unhide HX).cell 3 rfl
  have x4c := (unhide HX).cell 4 rfl
  go_enter Try.func181, Try.ntmps181
  go_wp2_with fail
  go_ret
  exact ⟨rfl, unhide HB⟩

set_option maxHeartbeats 4000000 in
theorem c180t (ds : List Tm.Deal) (t : Int) (ao : Option Addr) (n cap B : Nat) (w : World) (hn : ds.length = n) (hm : n ≤ 1048576) (hr : DRow w ao ds) (hB : w.cell? ⟨B, 0, none⟩ = some (.int .i64 t)) :
    Calls Try.prog 180 #[.slice ao n cap, .func (Fn.func 181) #[] #[.pointer (some ⟨B, 0, none⟩)]] w fun e w' => e = .returned (.int .i64 (dFind ds t)) ∧ Below w.heap.size w w' := by
  subst hn
  have HR := hide hr.2
  have HC := hide hB
  clear hr hB
  go_enter Try.func180, Try.ntmps180
  go_wp2_with fail
  go_loopw [8] (fun i wr => ∃ k : Nat, k ≤ ds.length ∧ i = .int .i64 k ∧ dFind ds t = dFrom t k (ds.drop k) ∧ Below w.heap.size w wr) (fun i _ => ds.length - (intOf i).toNat)
  case atStart => exact ⟨0, Nat.zero_le _, rfl, rfl, Below.refl _ _⟩
  case round =>
    obtain ⟨k, hk, rfl, hw, hbel⟩ := hrel
    by_cases hlt : k < ds.length
    case neg =>
      obtain rfl : k = ds.length := by omega
      rw [List.drop_length] at hw
      have HU := hide hw
      have HB := hide hbel
      clear hw hbel
      go_wp2_with fail
      go_ret
      exact ⟨by rw [unhide HU]; rfl, unhide HB⟩
    have e0 : (0 : Int) ≤ (k : Int) := by omega
    have e1 : (k : Int) < (ds.length : Int) := by omega
    obtain ⟨b, off, rfl, hc⟩ := unhide HR (by intro e; subst e; simp at hlt)
    obtain ⟨⟨x0, x1, x2, x3, x4⟩, hx⟩ := atDD hlt
    obtain ⟨g0, g1, g2, g3, g4⟩ := d_cells hbel hc hx
    rw [d_drop hx] at hw
    have HCW := hide (cell_bl hbel (unhide HC))
    have HB := hide hbel
    clear hbel hc hx
    go_wp2_with fail
    clear g0 g1 g2 g3 g4
    refine (c181 x0 x1 x2 x3 x4 t B _ (unhide HCW)).mono ?_
    rintro e w1 ⟨rfl, hb⟩
    replace HB := hide (below_tr (unhide HB) hb)
    clear hb HCW
    by_cases ht : x0 = t
    case pos =>
      have HU := hide (hw.trans (dFrom_hit ht))
      rw [decide_eq_true ht]
      clear hw ht
      go_wp2_with fail
      go_ret
      exact ⟨by rw [unhide HU]; rfl, unhide HB⟩
    have HU := hide (hw.trans (dFrom_on ht))
    rw [decide_eq_false ht]
    clear hw ht
    go_wp2_with fail
    go_roundw
    case rel => exact ⟨k + 1, by omega, by go_num, unhide HU, unhide HB⟩
    case measure => simp [intOf]; omega

set_option maxHeartbeats 4000000 in
theorem c126 (ds : List Tm.Deal) (t : Int) (ao : Option Addr) (n cap : Nat) (w : World) (hn : ds.length = n) (hm : n ≤ 1048576) (hr : DRow w ao ds) :
    Calls Try.prog 126 #[.slice ao n cap, .int .i64 t] w fun e w' => e = .returned (.int .i64 (dFind ds t)) ∧ Below w.heap.size w w' := by
  subst hn
  have HR := hide hr.2
  clear hr
  go_enter Try.func126, Try.ntmps126
  go_wp2_with fail
  go_loopw [5] (fun i wr => ∃ k : Nat, k ≤ ds.length ∧ i = .int .i64 k ∧ dFind ds t = dFrom t k (ds.drop k) ∧ Below w.heap.size w wr) (fun i _ => ds.length - (intOf i).toNat)
  case atStart => exact ⟨0, Nat.zero_le _, rfl, rfl, Below.refl _ _⟩
  case round =>
    obtain ⟨k, hk, rfl, hw, hbel⟩ := hrel
    by_cases hlt : k < ds.length
    case neg =>
      obtain rfl : k = ds.length := by omega
      rw [List.drop_length] at hw
      have HU := hide hw
      have HB := hide hbel
      clear hw hbel
      go_wp2_with fail
      go_ret
      exact ⟨by rw [unhide HU]; rfl, unhide HB⟩
    have e0 : (0 : Int) ≤ (k : Int) := by omega
    have e1 : (k : Int) < (ds.length : Int) := by omega
    obtain ⟨b, off, rfl, hc⟩ := unhide HR (by intro e; subst e; simp at hlt)
    obtain ⟨⟨x0, x1, x2, x3, x4⟩, hx⟩ := atDD hlt
    obtain ⟨g0, g1, g2, g3, g4⟩ := d_cells hbel hc hx
    rw [d_drop hx] at hw
    have HB := hide hbel
    clear hbel hc hx
    by_cases ht : x0 = t
    case pos =>
      have HU := hide (hw.trans (dFrom_hit ht))
      have hb : (x0 == t) = true := by rw [beq_iff_eq]; exact ht
      clear hw ht
      go_wp2_with fail
      go_ret
      exact ⟨by rw [unhide HU]; rfl, unhide HB⟩
    have HU := hide (hw.trans (dFrom_on ht))
    have hb : (x0 == t) = false := by rw [beq_eq_false_iff_ne]; exact ht
    clear hw ht
    go_wp2_with fail
    go_roundw
    case rel => exact ⟨k + 1, by omega, by go_num, unhide HU, unhide HB⟩
    case measure => simp [intOf]; omega

set_option maxHeartbeats 4000000 in
theorem c125 (h : House) (q : HP) (t : Int) (w : World) (hs : h.ds.length ≤ 1048576) (hr : HRow w q h) : Calls Try.prog 125 #[hV q h, .int .i64 t] w fun e w' => e = .returned (.int .i64 (dFind h.ds t)) ∧ Below w.heap.size w w' := by
  obtain ⟨es, pu, ds, cl, nu, sa⟩ := h
  obtain ⟨a0, k0, a1, k1, a2, k2, a4, k4, a5, k5⟩ := q
  have HR := hide hr.2.2.1
  clear hr
  dsimp only at hs HR
  have HB := hide (Below.refl w.heap.size w)
  replace HB := hide (below_al (o := .cells #[.slice a0 es.length k0, .slice a1 pu.length k1, .slice a2 ds.length k2, .int .i64 cl, .slice a4 nu.length k4, .slice a5 sa.length k5] 28) (unhide HB))
  have HX := hide (box_new w [.slice a0 es.length k0, .slice a1 pu.length k1, .slice a2 ds.length k2, .int .i64 cl, .slice a4 nu.length k4, .slice a5 sa.length k5] 28 (by simp [Value.oneCell']))
  (try simp only [World.size_alloc] at HX)
  replace HB := hide (below_al (o := .cells #[.int .i64 t] 3) (unhide HB))
  replace HX := hide ((unhide HX).bel (below_a (.cells #[.int .i64 t] 3)))
  have HT := hide (box_new (w.alloc (.cells #[.slice a0 es.length k0, .slice a1 pu.length k1, .slice a2 ds.length k2, .int .i64 cl, .slice a4 nu.length k4, .slice a5 sa.length k5] 28)) [.int .i64 t] 3 (by simp [Value.oneCell']))
  (try simp only [World.size_alloc] at HT)
  have hmf : ∀ (fn : Fn) (first cap : Array Value) (w : World), (Instr.makeFunc fn first cap).run Try.prog w = .ok (.func fn first cap) w := fun _ _ _ _ => rfl
  have x0 := (unhide HX).cell 0 rfl
  have x1 := (unhide HX).cell 1 rfl
  have x2 := (unhide HX).cell 2 rfl
  have x3 := (unhide HX).cell 3 rfl
  have x4 := (unhide HX).cell 4 rfl
  have x5 := (unhide HX).cell 5 rfl
  have t0c := (unhide HT).cell 0 rfl
  go_enter Try.func125, Try.ntmps125
  go_wp2_with fail
  refine (c180t ds t a2 ds.length k2 (w.heap.size + 1) _ rfl hs ((unhide HR).bel (unhide HB)) ((unhide HT).cell 0 rfl)).mono ?_
  rintro e w1 ⟨rfl, hb⟩
  (try clear x0 x1 x2 x3 x4 x5 t0c)
  replace HB := hide (below_tr (unhide HB) hb)
  replace HX := hide ((unhide HX).bel hb)
  replace HT := hide ((unhide HT).bel hb)
  clear hb
  have x0 := (unhide HX).cell 0 rfl
  have x1 := (unhide HX).cell 1 rfl
  have x2 := (unhide HX).cell 2 rfl
  have x3 := (unhide HX).cell 3 rfl
  have x4 := (unhide HX).cell 4 rfl
  have x5 := (unhide HX).cell 5 rfl
  have t0c := (unhide HT).cell 0 rfl
  go_wp2_with fail
  go_ret
  exact ⟨rfl, unhide HB⟩

abbrev dealW (d : Tm.Deal) : Value := dealV d.1 d.2.1 d.2.2.1 d.2.2.2.1 d.2.2.2.2
theorem load_deal {W : World} {g : Nat} {x0 x1 x2 x3 x4 : Value} (h : Box W g [x0, x1, x2, x3, x4]) : (Go.loadVar 42 ⟨g, 0, none⟩).run Try.prog W = .ok (.agg #[x0, x1, x2, x3, x4]) W := by
  have c0 := h.cell 0 rfl
  have c1 := h.cell 1 rfl
  have c2 := h.cell 2 rfl
  have c3 := h.cell 3 rfl
  have c4 := h.cell 4 rfl
  simp [go_sem, c0, c1, c2, c3, c4]

set_option maxHeartbeats 4000000 in
theorem c41 (h : House) (q : HP) (t : Int) (w : World) (hs : h.ds.length ≤ 1048576) (hr : HRow w q h) : Calls Try.prog 41 #[hV q h, .int .i64 t] w (fun e w' => e = .returned (.tuple #[dealW (dealOf h.ds t), .bool (dealIs h.ds t)]) ∧ Below w.heap.size w w') := by
  obtain ⟨es, pu, ds, cl, nu, sa⟩ := h
  obtain ⟨a0, k0, a1, k1, a2, k2, a4, k4, a5, k5⟩ := q
  have HRR := hide hr
  have HR := hide hr.2.2.1
  clear hr
  dsimp only at hs HR ⊢
  have HB := hide (Below.refl w.heap.size w)
  replace HB := hide (below_al (o := .cells #[.slice a0 es.length k0, .slice a1 pu.length k1, .slice a2 ds.length k2, .int .i64 cl, .slice a4 nu.length k4, .slice a5 sa.length k5] 28) (unhide HB))
  have HX := hide (box_new w [.slice a0 es.length k0, .slice a1 pu.length k1, .slice a2 ds.length k2, .int .i64 cl, .slice a4 nu.length k4, .slice a5 sa.length k5] 28 (by simp [Value.oneCell']))
  (try simp only [World.size_alloc] at HX)
  replace HB := hide (below_al (o := .cells #[.int .i64 0, .int .i64 0, .int .i64 0, .int .i64 0, .int .i64 0] 42) (unhide HB))
  replace HX := hide ((unhide HX).bel (below_a (.cells #[.int .i64 0, .int .i64 0, .int .i64 0, .int .i64 0, .int .i64 0] 42)))
  have HZ := hide (box_new (w.alloc (.cells #[.slice a0 es.length k0, .slice a1 pu.length k1, .slice a2 ds.length k2, .int .i64 cl, .slice a4 nu.length k4, .slice a5 sa.length k5] 28)) [.int .i64 0, .int .i64 0, .int .i64 0, .int .i64 0, .int .i64 0] 42 (by simp [Value.oneCell']))
  (try simp only [World.size_alloc] at HZ)
  have HS := hide (dFind_spec ds t)
  generalize hf : dFind ds t = f at *
  generalize hdo : dealOf ds t = dd at *
  generalize hdi : dealIs ds t = di at *
  have HF := hide hf
  clear hf hdo hdi
  have x0 := (unhide HX).cell 0 rfl
  have x1 := (unhide HX).cell 1 rfl
  have x2 := (unhide HX).cell 2 rfl
  have x3 := (unhide HX).cell 3 rfl
  have x4 := (unhide HX).cell 4 rfl
  have x5 := (unhide HX).cell 5 rfl
  have z0 := (unhide HZ).cell 0 rfl
  have z0f := (unhide HZ).frozen 0 rfl
  have z1 := (unhide HZ).cell 1 rfl
  have z1f := (unhide HZ).frozen 1 rfl
  have z2 := (unhide HZ).cell 2 rfl
  have z2f := (unhide HZ).frozen 2 rfl
  have z3 := (unhide HZ).cell 3 rfl
  have z3f := (unhide HZ).frozen 3 rfl
  have z4 := (unhide HZ).cell 4 rfl
  have z4f := (unhide HZ).frozen 4 rfl
  go_enter Try.func41, Try.ntmps41
  go_wp2_with fail
  refine (c125 ⟨es, pu, ds, cl, nu, sa⟩ ⟨a0, k0, a1, k1, a2, k2, a4, k4, a5, k5⟩ t _ hs ((unhide HRR).bel (unhide HB))).mono ?_
  rintro e w1 ⟨rfl, hb⟩
  dsimp only
  rw [unhide HF]
  (try clear x0 x1 x2 x3 x4 x5 z0 z0f z1 z1f z2 z2f z3 z3f z4 z4f)
  replace HB := hide (below_tr (unhide HB) hb)
  replace HX := hide ((unhide HX).bel hb)
  replace HZ := hide ((unhide HZ).bel hb)
  clear hb
  have x0 := (unhide HX).cell 0 rfl
  have x1 := (unhide HX).cell 1 rfl
  have x2 := (unhide HX).cell 2 rfl
  have x3 := (unhide HX).cell 3 rfl
  have x4 := (unhide HX).cell 4 rfl
  have x5 := (unhide HX).cell 5 rfl
  have z0 := (unhide HZ).cell 0 rfl
  have z0f := (unhide HZ).frozen 0 rfl
  have z1 := (unhide HZ).cell 1 rfl
  have z1f := (unhide HZ).frozen 1 rfl
  have z2 := (unhide HZ).cell 2 rfl
  have z2f := (unhide HZ).frozen 2 rfl
  have z3 := (unhide HZ).cell 3 rfl
  have z3f := (unhide HZ).frozen 3 rfl
  have z4 := (unhide HZ).cell 4 rfl
  have z4f := (unhide HZ).frozen 4 rfl
  rcases unhide HS with ⟨h1, h2, h3⟩ | ⟨i, d, h1, h2, h3, h4⟩
  case inl =>
    subst h1 h2 h3
    have hm : (-1 : Int) < 0 := by omega
    go_wp2_with fail
    (try clear x0 x1 x2 x3 x4 x5 z0 z0f z1 z1f z2 z2f z3 z3f z4 z4f)
    replace HX := hide ((unhide HX).oth (g' := w.heap.size + 1) (i := 0) (.int .i64 0) (by omega))
    replace HZ := hide (box_put (unhide HZ) 0 (.int .i64 0) (by simp))
    replace HB := hide (below_sc (p := ⟨w.heap.size + 1, 0, none⟩) (v := .int .i64 0) (unhide HB) (by dsimp only; omega))
    replace HX := hide ((unhide HX).oth (g' := w.heap.size + 1) (i := 1) (.int .i64 0) (by omega))
    replace HZ := hide (box_put (unhide HZ) 1 (.int .i64 0) (by simp))
    replace HB := hide (below_sc (p := ⟨w.heap.size + 1, 1, none⟩) (v := .int .i64 0) (unhide HB) (by dsimp only; omega))
    replace HX := hide ((unhide HX).oth (g' := w.heap.size + 1) (i := 2) (.int .i64 0) (by omega))
    replace HZ := hide (box_put (unhide HZ) 2 (.int .i64 0) (by simp))
    replace HB := hide (below_sc (p := ⟨w.heap.size + 1, 2, none⟩) (v := .int .i64 0) (unhide HB) (by dsimp only; omega))
    replace HX := hide ((unhide HX).oth (g' := w.heap.size + 1) (i := 3) (.int .i64 0) (by omega))
    replace HZ := hide (box_put (unhide HZ) 3 (.int .i64 0) (by simp))
    replace HB := hide (below_sc (p := ⟨w.heap.size + 1, 3, none⟩) (v := .int .i64 0) (unhide HB) (by dsimp only; omega))
    replace HX := hide ((unhide HX).oth (g' := w.heap.size + 1) (i := 4) (.int .i64 0) (by omega))
    replace HZ := hide (box_put (unhide HZ) 4 (.int .i64 0) (by simp))
    replace HB := hide (below_sc (p := ⟨w.heap.size + 1, 4, none⟩) (v := .int .i64 0) (unhide HB) (by dsimp only; omega))
    replace HZ := hide (show Box _ (w.heap.size + 1) [.int .i64 0, .int .i64 0, .int .i64 0, .int .i64 0, .int .i64 0] from unhide HZ)
    have x0 := (unhide HX).cell 0 rfl
    have x1 := (unhide HX).cell 1 rfl
    have x2 := (unhide HX).cell 2 rfl
    have x3 := (unhide HX).cell 3 rfl
    have x4 := (unhide HX).cell 4 rfl
    have x5 := (unhide HX).cell 5 rfl
    have z0 := (unhide HZ).cell 0 rfl
    have z0f := (unhide HZ).frozen 0 rfl
    have z1 := (unhide HZ).cell 1 rfl
    have z1f := (unhide HZ).frozen 1 rfl
    have z2 := (unhide HZ).cell 2 rfl
    have z2f := (unhide HZ).frozen 2 rfl
    have z3 := (unhide HZ).cell 3 rfl
    have z3f := (unhide HZ).frozen 3 rfl
    have z4 := (unhide HZ).cell 4 rfl
    have z4f := (unhide HZ).frozen 4 rfl
    exact bodyPost_ret (v := .tuple #[dealW (0, 0, 0, 0, 0), .bool false]) (results_ct Try.results41 rfl (load_deal (unhide HZ))) rfl ⟨rfl, unhide HB⟩
  subst h1 h3 h4
  have hil := lt_of_getD h2
  have hi0 : ¬ ((i : Int) < 0) := by omega
  have hi1 : (0 : Int) ≤ (i : Int) := by omega
  have hi2 : (i : Int) < (ds.length : Int) := by omega
  obtain ⟨b, off, rfl, hc⟩ := ((unhide HR).bel (unhide HB)).2 (by intro e; subst e; simp at hil)
  obtain ⟨d0, d1, d2, d3, d4⟩ := dd
  obtain ⟨g0, g1, g2, g3, g4⟩ := d_cells (Below.refl _ _) hc h2
  clear hc h2
  go_wp2_with fail
  clear g0 g1 g2 g3 g4
  (try clear x0 x1 x2 x3 x4 x5 z0 z0f z1 z1f z2 z2f z3 z3f z4 z4f)
  replace HX := hide ((unhide HX).oth (g' := w.heap.size + 1) (i := 0) (.int .i64 d0) (by omega))
  replace HZ := hide (box_put (unhide HZ) 0 (.int .i64 d0) (by simp))
  replace HB := hide (below_sc (p := ⟨w.heap.size + 1, 0, none⟩) (v := .int .i64 d0) (unhide HB) (by dsimp only; omega))
  replace HX := hide ((unhide HX).oth (g' := w.heap.size + 1) (i := 1) (.int .i64 d1) (by omega))
  replace HZ := hide (box_put (unhide HZ) 1 (.int .i64 d1) (by simp))
  replace HB := hide (below_sc (p := ⟨w.heap.size + 1, 1, none⟩) (v := .int .i64 d1) (unhide HB) (by dsimp only; omega))
  replace HX := hide ((unhide HX).oth (g' := w.heap.size + 1) (i := 2) (.int .i64 d2) (by omega))
  replace HZ := hide (box_put (unhide HZ) 2 (.int .i64 d2) (by simp))
  replace HB := hide (below_sc (p := ⟨w.heap.size + 1, 2, none⟩) (v := .int .i64 d2) (unhide HB) (by dsimp only; omega))
  replace HX := hide ((unhide HX).oth (g' := w.heap.size + 1) (i := 3) (.int .i64 d3) (by omega))
  replace HZ := hide (box_put (unhide HZ) 3 (.int .i64 d3) (by simp))
  replace HB := hide (below_sc (p := ⟨w.heap.size + 1, 3, none⟩) (v := .int .i64 d3) (unhide HB) (by dsimp only; omega))
  replace HX := hide ((unhide HX).oth (g' := w.heap.size + 1) (i := 4) (.int .i64 d4) (by omega))
  replace HZ := hide (box_put (unhide HZ) 4 (.int .i64 d4) (by simp))
  replace HB := hide (below_sc (p := ⟨w.heap.size + 1, 4, none⟩) (v := .int .i64 d4) (unhide HB) (by dsimp only; omega))
  replace HZ := hide (show Box _ (w.heap.size + 1) [.int .i64 d0, .int .i64 d1, .int .i64 d2, .int .i64 d3, .int .i64 d4] from unhide HZ)
  have x0 := (unhide HX).cell 0 rfl
  have x1 := (unhide HX).cell 1 rfl
  have x2 := (unhide HX).cell 2 rfl
  have x3 := (unhide HX).cell 3 rfl
  have x4 := (unhide HX).cell 4 rfl
  have x5 := (unhide HX).cell 5 rfl
  have z0 := (unhide HZ).cell 0 rfl
  have z0f := (unhide HZ).frozen 0 rfl
  have z1 := (unhide HZ).cell 1 rfl
  have z1f := (unhide HZ).frozen 1 rfl
  have z2 := (unhide HZ).cell 2 rfl
  have z2f := (unhide HZ).frozen 2 rfl
  have z3 := (unhide HZ).cell 3 rfl
  have z3f := (unhide HZ).frozen 3 rfl
  have z4 := (unhide HZ).cell 4 rfl
  have z4f := (unhide HZ).frozen 4 rfl
  exact bodyPost_ret (v := .tuple #[dealW (d0, d1, d2, d3, d4), .bool true]) (results_ct Try.results41 rfl (load_deal (unhide HZ))) rfl ⟨rfl, unhide HB⟩

set_option maxHeartbeats 4000000 in
theorem c43 (h : House) (q : HP) (t : Int) (w : World) (hs : h.ds.length ≤ 1048576) (hr : HRow w q h) : Calls Try.prog 43 #[hV q h, .int .i64 t] w (fun e w' => e = .returned (.tuple #[dealW (dealOf h.ds t), .bool (dealIs h.ds t)]) ∧ Below w.heap.size w w') := by
  obtain ⟨es, pu, ds, cl, nu, sa⟩ := h
  obtain ⟨a0, k0, a1, k1, a2, k2, a4, k4, a5, k5⟩ := q
  have HRR := hide hr
  have HR := hide hr.2.2.1
  clear hr
  dsimp only at hs HR ⊢
  have HB := hide (Below.refl w.heap.size w)
  replace HB := hide (below_al (o := .cells #[.slice a0 es.length k0, .slice a1 pu.length k1, .slice a2 ds.length k2, .int .i64 cl, .slice a4 nu.length k4, .slice a5 sa.length k5] 28) (unhide HB))
  have HX := hide (box_new w [.slice a0 es.length k0, .slice a1 pu.length k1, .slice a2 ds.length k2, .int .i64 cl, .slice a4 nu.length k4, .slice a5 sa.length k5] 28 (by simp [Value.oneCell']))
  (try simp only [World.size_alloc] at HX)
  replace HB := hide (below_al (o := .cells #[.int .i64 0, .int .i64 0, .int .i64 0, .int .i64 0, .int .i64 0] 42) (unhide HB))
  replace HX := hide ((unhide HX).bel (below_a (.cells #[.int .i64 0, .int .i64 0, .int .i64 0, .int .i64 0, .int .i64 0] 42)))
  have HZ := hide (box_new (w.alloc (.cells #[.slice a0 es.length k0, .slice a1 pu.length k1, .slice a2 ds.length k2, .int .i64 cl, .slice a4 nu.length k4, .slice a5 sa.length k5] 28)) [.int .i64 0, .int .i64 0, .int .i64 0, .int .i64 0, .int .i64 0] 42 (by simp [Value.oneCell']))
  (try simp only [World.size_alloc] at HZ)
  have HS := hide (dFind_spec ds t)
  generalize hf : dFind ds t = f at *
  generalize hdo : dealOf ds t = dd at *
  generalize hdi : dealIs ds t = di at *
  have HF := hide hf
  clear hf hdo hdi
  have x0 := (unhide HX).cell 0 rfl
  have x1 := (unhide HX).cell 1 rfl
  have x2 := (unhide HX).cell 2 rfl
  have x3 := (unhide HX).cell 3 rfl
  have x4 := (unhide HX).cell 4 rfl
  have x5 := (unhide HX).cell 5 rfl
  have z0 := (unhide HZ).cell 0 rfl
  have z0f := (unhide HZ).frozen 0 rfl
  have z1 := (unhide HZ).cell 1 rfl
  have z1f := (unhide HZ).frozen 1 rfl
  have z2 := (unhide HZ).cell 2 rfl
  have z2f := (unhide HZ).frozen 2 rfl
  have z3 := (unhide HZ).cell 3 rfl
  have z3f := (unhide HZ).frozen 3 rfl
  have z4 := (unhide HZ).cell 4 rfl
  have z4f := (unhide HZ).frozen 4 rfl
  go_enter Try.func43, Try.ntmps43
  go_wp2_with fail
  refine (c126 ds t a2 ds.length k2 _ rfl hs ((unhide HRR).2.2.1.bel (unhide HB))).mono ?_
  rintro e w1 ⟨rfl, hb⟩
  rw [unhide HF]
  (try clear x0 x1 x2 x3 x4 x5 z0 z0f z1 z1f z2 z2f z3 z3f z4 z4f)
  replace HB := hide (below_tr (unhide HB) hb)
  replace HX := hide ((unhide HX).bel hb)
  replace HZ := hide ((unhide HZ).bel hb)
  clear hb
  have x0 := (unhide HX).cell 0 rfl
  have x1 := (unhide HX).cell 1 rfl
  have x2 := (unhide HX).cell 2 rfl
  have x3 := (unhide HX).cell 3 rfl
  have x4 := (unhide HX).cell 4 rfl
  have x5 := (unhide HX).cell 5 rfl
  have z0 := (unhide HZ).cell 0 rfl
  have z0f := (unhide HZ).frozen 0 rfl
  have z1 := (unhide HZ).cell 1 rfl
  have z1f := (unhide HZ).frozen 1 rfl
  have z2 := (unhide HZ).cell 2 rfl
  have z2f := (unhide HZ).frozen 2 rfl
  have z3 := (unhide HZ).cell 3 rfl
  have z3f := (unhide HZ).frozen 3 rfl
  have z4 := (unhide HZ).cell 4 rfl
  have z4f := (unhide HZ).frozen 4 rfl
  rcases unhide HS with ⟨h1, h2, h3⟩ | ⟨i, d, h1, h2, h3, h4⟩
  case inl =>
    subst h1 h2 h3
    have hm : (-1 : Int) < 0 := by omega
    go_wp2_with fail
    (try clear x0 x1 x2 x3 x4 x5 z0 z0f z1 z1f z2 z2f z3 z3f z4 z4f)
    replace HX := hide ((unhide HX).oth (g' := w.heap.size + 1) (i := 0) (.int .i64 0) (by omega))
    replace HZ := hide (box_put (unhide HZ) 0 (.int .i64 0) (by simp))
    replace HB := hide (below_sc (p := ⟨w.heap.size + 1, 0, none⟩) (v := .int .i64 0) (unhide HB) (by dsimp only; omega))
    replace HX := hide ((unhide HX).oth (g' := w.heap.size + 1) (i := 1) (.int .i64 0) (by omega))
    replace HZ := hide (box_put (unhide HZ) 1 (.int .i64 0) (by simp))
    replace HB := hide (below_sc (p := ⟨w.heap.size + 1, 1, none⟩) (v := .int .i64 0) (unhide HB) (by dsimp only; omega))
    replace HX := hide ((unhide HX).oth (g' := w.heap.size + 1) (i := 2) (.int .i64 0) (by omega))
    replace HZ := hide (box_put (unhide HZ) 2 (.int .i64 0) (by simp))
    replace HB := hide (below_sc (p := ⟨w.heap.size + 1, 2, none⟩) (v := .int .i64 0) (unhide HB) (by dsimp only; omega))
    replace HX := hide ((unhide HX).oth (g' := w.heap.size + 1) (i := 3) (.int .i64 0) (by omega))
    replace HZ := hide (box_put (unhide HZ) 3 (.int .i64 0) (by simp))
    replace HB := hide (below_sc (p := ⟨w.heap.size + 1, 3, none⟩) (v := .int .i64 0) (unhide HB) (by dsimp only; omega))
    replace HX := hide ((unhide HX).oth (g' := w.heap.size + 1) (i := 4) (.int .i64 0) (by omega))
    replace HZ := hide (box_put (unhide HZ) 4 (.int .i64 0) (by simp))
    replace HB := hide (below_sc (p := ⟨w.heap.size + 1, 4, none⟩) (v := .int .i64 0) (unhide HB) (by dsimp only; omega))
    replace HZ := hide (show Box _ (w.heap.size + 1) [.int .i64 0, .int .i64 0, .int .i64 0, .int .i64 0, .int .i64 0] from unhide HZ)
    have x0 := (unhide HX).cell 0 rfl
    have x1 := (unhide HX).cell 1 rfl
    have x2 := (unhide HX).cell 2 rfl
    have x3 := (unhide HX).cell 3 rfl
    have x4 := (unhide HX).cell 4 rfl
    have x5 := (unhide HX).cell 5 rfl
    have z0 := (unhide HZ).cell 0 rfl
    have z0f := (unhide HZ).frozen 0 rfl
    have z1 := (unhide HZ).cell 1 rfl
    have z1f := (unhide HZ).frozen 1 rfl
    have z2 := (unhide HZ).cell 2 rfl
    have z2f := (unhide HZ).frozen 2 rfl
    have z3 := (unhide HZ).cell 3 rfl
    have z3f := (unhide HZ).frozen 3 rfl
    have z4 := (unhide HZ).cell 4 rfl
    have z4f := (unhide HZ).frozen 4 rfl
    exact bodyPost_ret (v := .tuple #[dealW (0, 0, 0, 0, 0), .bool false]) (results_ct Try.results43 rfl (load_deal (unhide HZ))) rfl ⟨rfl, unhide HB⟩
  subst h1 h3 h4
  have hil := lt_of_getD h2
  have hi0 : ¬ ((i : Int) < 0) := by omega
  have hi1 : (0 : Int) ≤ (i : Int) := by omega
  have hi2 : (i : Int) < (ds.length : Int) := by omega
  obtain ⟨b, off, rfl, hc⟩ := ((unhide HR).bel (unhide HB)).2 (by intro e; subst e; simp at hil)
  obtain ⟨d0, d1, d2, d3, d4⟩ := dd
  obtain ⟨g0, g1, g2, g3, g4⟩ := d_cells (Below.refl _ _) hc h2
  clear hc h2
  go_wp2_with fail
  clear g0 g1 g2 g3 g4
  (try clear x0 x1 x2 x3 x4 x5 z0 z0f z1 z1f z2 z2f z3 z3f z4 z4f)
  replace HX := hide ((unhide HX).oth (g' := w.heap.size + 1) (i := 0) (.int .i64 d0) (by omega))
  replace HZ := hide (box_put (unhide HZ) 0 (.int .i64 d0) (by simp))
  replace HB := hide (below_sc (p := ⟨w.heap.size + 1, 0, none⟩) (v := .int .i64 d0) (unhide HB) (by dsimp only; omega))
  replace HX := hide ((unhide HX).oth (g' := w.heap.size + 1) (i := 1) (.int .i64 d1) (by omega))
  replace HZ := hide (box_put (unhide HZ) 1 (.int .i64 d1) (by simp))
  replace HB := hide (below_sc (p := ⟨w.heap.size + 1, 1, none⟩) (v := .int .i64 d1) (unhide HB) (by dsimp only; omega))
  replace HX := hide ((unhide HX).oth (g' := w.heap.size + 1) (i := 2) (.int .i64 d2) (by omega))
  replace HZ := hide (box_put (unhide HZ) 2 (.int .i64 d2) (by simp))
  replace HB := hide (below_sc (p := ⟨w.heap.size + 1, 2, none⟩) (v := .int .i64 d2) (unhide HB) (by dsimp only; omega))
  replace HX := hide ((unhide HX).oth (g' := w.heap.size + 1) (i := 3) (.int .i64 d3) (by omega))
  replace HZ := hide (box_put (unhide HZ) 3 (.int .i64 d3) (by simp))
  replace HB := hide (below_sc (p := ⟨w.heap.size + 1, 3, none⟩) (v := .int .i64 d3) (unhide HB) (by dsimp only; omega))
  replace HX := hide ((unhide HX).oth (g' := w.heap.size + 1) (i := 4) (.int .i64 d4) (by omega))
  replace HZ := hide (box_put (unhide HZ) 4 (.int .i64 d4) (by simp))
  replace HB := hide (below_sc (p := ⟨w.heap.size + 1, 4, none⟩) (v := .int .i64 d4) (unhide HB) (by dsimp only; omega))
  replace HZ := hide (show Box _ (w.heap.size + 1) [.int .i64 d0, .int .i64 d1, .int .i64 d2, .int .i64 d3, .int .i64 d4] from unhide HZ)
  have x0 := (unhide HX).cell 0 rfl
  have x1 := (unhide HX).cell 1 rfl
  have x2 := (unhide HX).cell 2 rfl
  have x3 := (unhide HX).cell 3 rfl
  have x4 := (unhide HX).cell 4 rfl
  have x5 := (unhide HX).cell 5 rfl
  have z0 := (unhide HZ).cell 0 rfl
  have z0f := (unhide HZ).frozen 0 rfl
  have z1 := (unhide HZ).cell 1 rfl
  have z1f := (unhide HZ).frozen 1 rfl
  have z2 := (unhide HZ).cell 2 rfl
  have z2f := (unhide HZ).frozen 2 rfl
  have z3 := (unhide HZ).cell 3 rfl
  have z3f := (unhide HZ).frozen 3 rfl
  have z4 := (unhide HZ).cell 4 rfl
  have z4f := (unhide HZ).frozen 4 rfl
  exact bodyPost_ret (v := .tuple #[dealW (d0, d1, d2, d3, d4), .bool true]) (results_ct Try.results43 rfl (load_deal (unhide HZ))) rfl ⟨rfl, unhide HB⟩
end Go.Proofs.Ytmlbphmbffkdnaa
