/-
  The walk of the law FnWatMeet: at every two codes it answers true, and nothing that was there is written.
-/
import Derived.Test.YtdpkdcdieajkbaaDrwt
import Derived.Test.YtdpkdcdieajkbaaWatm
import Derived.Test.YtdpkdcdieajkbaaWata
import Derived.Test.YtdpkdcdieajkbaaDrcap
namespace Go.Proofs.Ytdpkdcdieajkbaa
open Go.RowKit
set_option linter.unusedVariables false
set_option maxRecDepth 100000

def anyIn (x : Tm.Hed) (ys : List Tm.Hed) : Bool := ys.any (fun y => hedFork x.1 x.2.1 x.2.2 y.1 y.2.1 y.2.2)
def anyFork (xs ys : List Tm.Hed) : Bool := xs.any (fun x => anyIn x ys)
theorem meetIn_some (x : Tm.Hed) (ys : List Tm.Hed) : (meetIn x ys).isSome = anyIn x ys := by
  unfold anyIn
  induction ys with
  | nil => rfl
  | cons y t ih =>
    rw [List.any_cons, meetIn]
    rcases h : hedFork x.1 x.2.1 x.2.2 y.1 y.2.1 y.2.2 with _ | _
    · rw [if_neg (by simp), ih]; rfl
    · rw [if_pos rfl]; rfl
theorem meetFrom_some (xs ys : List Tm.Hed) : (meetFrom xs ys).isSome = anyFork xs ys := by
  unfold anyFork
  induction xs with
  | nil => rfl
  | cons x t ih =>
    rw [List.any_cons, ← meetIn_some, ← ih]
    rcases h : meetIn x ys with _ | p
    · rw [meet_on h]; rfl
    · rw [meet_hit h]; rfl
theorem meetIn_mem {x : Tm.Hed} : ∀ {ys : List Tm.Hed} {p : Tm.Hed × Tm.Hed}, meetIn x ys = some p → p.1 = x ∧ p.2 ∈ ys ∧ hedFork x.1 x.2.1 x.2.2 p.2.1 p.2.2.1 p.2.2.2 = true := by
  intro ys
  induction ys with
  | nil => intro p h; cases h
  | cons y t ih =>
    intro p h
    rw [meetIn] at h
    split at h
    · rename_i hf
      cases h
      exact ⟨rfl, List.mem_cons_self, hf⟩
    · obtain ⟨h1, h2, h3⟩ := ih h
      exact ⟨h1, List.mem_cons_of_mem _ h2, h3⟩
theorem meetFrom_mem : ∀ {xs ys : List Tm.Hed} {p : Tm.Hed × Tm.Hed}, meetFrom xs ys = some p → p.1 ∈ xs ∧ p.2 ∈ ys ∧ hedFork p.1.1 p.1.2.1 p.1.2.2 p.2.1 p.2.2.1 p.2.2.2 = true := by
  intro xs
  induction xs with
  | nil => intro ys p h; cases h
  | cons x t ih =>
    intro ys p h
    rcases e : meetIn x ys with _ | q
    · rw [meet_on e] at h
      obtain ⟨h1, h2, h3⟩ := ih h
      exact ⟨List.mem_cons_of_mem _ h1, h2, h3⟩
    · rw [meet_hit e] at h
      cases h
      obtain ⟨h1, h2, h3⟩ := meetIn_mem e
      refine ⟨by rw [h1]; exact List.mem_cons_self, h2, ?_⟩
      rw [h1]; exact h3
theorem meet_mem {xs ys : List Tm.Hed} {p : Tm.Hed × Tm.Hed} (h : meet xs ys = some p) : p.1 ∈ xs ∧ p.2 ∈ ys ∧ hedFork p.1.1 p.1.2.1 p.1.2.2 p.2.1 p.2.2.1 p.2.2.2 = true := by
  unfold meet at h
  split at h
  · exact meetFrom_mem h
  · cases h
theorem meet_fork {xs ys : List Tm.Hed} {p0 p1 p2 q0 q1 q2 : Int} (hx : metX (meet xs ys) = (p0, p1, p2)) (hy : metY (meet xs ys) = (q0, q1, q2)) (hb : (meet xs ys).isSome = true) : hedFork p0 p1 p2 q0 q1 q2 = true := by
  rcases e : meet xs ys with _ | p
  · rw [e] at hb; cases hb
  · rw [e] at hx hy
    have h := (meet_mem e).2.2
    have hx' : p.1 = (p0, p1, p2) := hx
    have hy' : p.2 = (q0, q1, q2) := hy
    rw [hx', hy'] at h
    exact h
theorem meet_off1 {xs ys : List Tm.Hed} (h : watOk xs = false) : (meet xs ys).isSome = false := by rw [meet_no1 h]; rfl
theorem meet_off2 {xs ys : List Tm.Hed} (h : watOk ys = false) : (meet xs ys).isSome = false := by rw [meet_no2 h]; rfl
theorem meet_any {xs ys : List Tm.Hed} (h : watOk xs = true) (h2 : watOk ys = true) : (meet xs ys).isSome = anyFork xs ys := by rw [meet_yes h h2, meetFrom_some]
theorem at_trueW {es : List Tm.Ent} {i : Int} (h : aI es i = true) : aS es i = i := by
  by_cases hin : 0 ≤ i ∧ i ≤ (es.length : Int)
  · obtain ⟨h1, h2⟩ := hin
    obtain ⟨k, rfl⟩ := Int.eq_ofNat_of_zero_le h1
    obtain ⟨f0, f1, f2, f3⟩ := at_yes (es := es) (k := k) (by omega)
    rw [f3] at h
    rw [f0, (hed_yes h).1, List.length_take]
    omega
  · rw [(at_no hin).2.2.2] at h; cases h
theorem hedIs_fork {es : List Tm.Ent} {x y : Tm.Hed} (hx : hedIs es x = true) (hy : hedIs es y = true) : hedFork x.1 x.2.1 x.2.2 y.1 y.2.1 y.2.2 = false := by
  unfold hedIs at hx hy
  simp only [Bool.and_eq_true, decide_eq_true_eq, Prod.mk.injEq] at hx hy
  by_cases e : x.1 = y.1
  · have e1 : x.2.1 = y.2.1 := by rw [← hx.2.2.1, ← hy.2.2.1, e]
    have e2 : x.2.2 = y.2.2 := by rw [← hx.2.2.2, ← hy.2.2.2, e]
    rw [e, e1, e2]
    unfold hedFork; simp
  · exact fork_3 e
theorem meet_all {xs zs : List Tm.Hed} {es : List Tm.Ent} (h1 : watAll zs es = true) (h2 : watAll xs es = true) : (meet xs zs).isSome = false := by
  rcases e : meet xs zs with _ | p
  · rfl
  · obtain ⟨m1, m2, hf⟩ := meet_mem e
    unfold watAll at h1 h2
    simp only [Bool.and_eq_true, List.all_eq_true] at h1 h2
    have := hedIs_fork (h2.2 _ m1) (h1.2 _ m2)
    rw [this] at hf
    cases hf
theorem any_take1 {xs ys : List Tm.Hed} {k : Nat} {x : Tm.Hed} (h : xs[k]? = some x) : anyFork (xs.take (k + 1)) ys = (anyFork (xs.take k) ys || anyIn x ys) := by
  unfold anyFork
  rw [List.take_add_one, h, List.any_append]; simp
theorem any_take2 {ys : List Tm.Hed} {x : Tm.Hed} {k : Nat} {a b c : Int} (h : ys[k]? = some (a, b, c)) : anyIn x (ys.take (k + 1)) = (anyIn x (ys.take k) || hedFork x.1 x.2.1 x.2.2 a b c) := by
  unfold anyIn
  rw [List.take_add_one, h, List.any_append]; simp

set_option maxHeartbeats 8000000 in
theorem law7 (bs cs : List Int) (ao bo : Option Addr) (n cap m cap' : Nat) (w : World) (hn : bs.length = n) (hc : n ≤ cap) (hm : cap ≤ maxLen) (hB : Bytes w ao bs) (hn2 : cs.length = m) (hc2 : m ≤ cap') (hm2 : cap' ≤ maxLen) (hB2 : Bytes w bo cs) :
    Calls Try.prog 7 #[.slice ao n cap, .slice bo m cap'] w (Holds w) := by
  have HM := hide hm
  unfold maxLen at hm
  have HBY := hide hB
  have HN := hide hn
  have HB := hide (Below.refl w.heap.size w)
  have HM2 := hide hm2
  unfold maxLen at hm2
  have HBZ := hide hB2
  have HN2 := hide hn2
  clear hB hn hB2 hn2
  by_cases hbig : (1048576 : Int) < (n : Int)
  case pos =>
    go_enter Try.func7, Try.ntmps7
    go_wp2_with fail
    go_ret
    exact ⟨rfl, unhide HB⟩
  by_cases hbig2 : (1048576 : Int) < (m : Int)
  case pos =>
    go_enter Try.func7, Try.ntmps7
    go_wp2_with fail
    go_ret
    exact ⟨rfl, unhide HB⟩
  go_enter Try.func7, Try.ntmps7
  go_wp2_with fail
  refine (c54 bs ao n cap _ HN.out hc (unhide HM) (unhide HBY)).mono ?_
  rintro e w1 ⟨v, v2, xs, ys, rfl, hlx, hly, hw, hw2, hb⟩
  obtain ⟨a1, c1, rfl, hc1, hr1, -⟩ := hw.row
  obtain ⟨a2, c2, rfl, hc2', hr2, -⟩ := hw2.row
  replace HB := hide (below_tr (unhide HB) hb)
  replace HBZ := hide ((unhide HBZ).bel hb)
  clear HBY
  have HX := hide (hr1)
  have HY := hide (hr2)
  clear hb hw hw2 hr1 hr2
  go_wp2_with fail
  refine (c55 xs ys a1 a2 xs.length c1 ys.length c2 _ rfl (by omega) rfl (by omega) (unhide HX) (unhide HY)).mono ?_
  rintro e w2 ⟨rfl, hb⟩
  obtain ⟨⟨p0, p1, p2⟩, HPX⟩ : ∃ X, Hid (metX (meet xs ys) = X) := ⟨_, rfl⟩
  obtain ⟨⟨q0, q1, q2⟩, HPY⟩ : ∃ X, Hid (metY (meet xs ys) = X) := ⟨_, rfl⟩
  obtain ⟨bb, HPB⟩ : ∃ X, Hid ((meet xs ys).isSome = X) := ⟨_, rfl⟩
  simp only [metV, hedW, unhide HPX, unhide HPY, unhide HPB]
  replace HB := hide (below_tr (unhide HB) hb)
  replace HBZ := hide ((unhide HBZ).bel hb)
  replace HX := hide ((unhide HX).bel hb)
  replace HY := hide ((unhide HY).bel hb)
  clear hb
  have hnb := box_new (w2.alloc (.cells #[.int .i64 p0, .int .i64 p1, .int .i64 p2] 38)) [.int .i64 q0, .int .i64 q1, .int .i64 q2] 38 (by simp [Value.oneCell'])
  simp only [World.size_alloc] at hnb
  replace HB := hide (below_al (o := .cells #[.int .i64 q0, .int .i64 q1, .int .i64 q2] 38) (below_al (o := .cells #[.int .i64 p0, .int .i64 p1, .int .i64 p2] 38) (unhide HB)))
  replace HBZ := hide (((unhide HBZ).bel (below_a (.cells #[.int .i64 p0, .int .i64 p1, .int .i64 p2] 38))).bel (below_a (.cells #[.int .i64 q0, .int .i64 q1, .int .i64 q2] 38)))
  replace HX := hide (((unhide HX).bel (below_a (.cells #[.int .i64 p0, .int .i64 p1, .int .i64 p2] 38))).bel (below_a (.cells #[.int .i64 q0, .int .i64 q1, .int .i64 q2] 38)))
  replace HY := hide (((unhide HY).bel (below_a (.cells #[.int .i64 p0, .int .i64 p1, .int .i64 p2] 38))).bel (below_a (.cells #[.int .i64 q0, .int .i64 q1, .int .i64 q2] 38)))
  have HQ1 := hide ((box_new w2 [.int .i64 p0, .int .i64 p1, .int .i64 p2] 38 (by simp [Value.oneCell'])).alloc (.cells #[.int .i64 q0, .int .i64 q1, .int .i64 q2] 38))
  have HQ2 := hide hnb
  clear hnb
  have a0 := (unhide HQ1).cell 0 rfl
  have a1c := (unhide HQ1).cell 1 rfl
  have a2c := (unhide HQ1).cell 2 rfl
  have b0 := (unhide HQ2).cell 0 rfl
  have b1 := (unhide HQ2).cell 1 rfl
  have b2 := (unhide HQ2).cell 2 rfl
  go_wp2_with fail
  refine (c56 xs ys a1 a2 xs.length c1 ys.length c2 _ rfl (by omega) rfl (by omega) (unhide HX) (unhide HY)).mono ?_
  rintro e w3 ⟨rfl, hb⟩
  simp only [metV, hedW, unhide HPX, unhide HPY, unhide HPB]
  (try clear a0 a1c a2c b0 b1 b2)
  replace HB := hide (below_tr (unhide HB) hb)
  replace HBZ := hide ((unhide HBZ).bel hb)
  replace HX := hide ((unhide HX).bel hb)
  replace HY := hide ((unhide HY).bel hb)
  replace HQ1 := hide ((unhide HQ1).bel hb)
  replace HQ2 := hide ((unhide HQ2).bel hb)
  clear hb
  have a0 := (unhide HQ1).cell 0 rfl
  have a1c := (unhide HQ1).cell 1 rfl
  have a2c := (unhide HQ1).cell 2 rfl
  have b0 := (unhide HQ2).cell 0 rfl
  have b1 := (unhide HQ2).cell 1 rfl
  have b2 := (unhide HQ2).cell 2 rfl
  have he := eqHedT
  have hg : Try.prog.eqGuardType Try.prog.depth 38 = false := by kernel_rfl
  (try clear a0 a1c a2c b0 b1 b2)
  have hnb := box_new (w3.alloc (.cells #[.int .i64 p0, .int .i64 p1, .int .i64 p2] 38)) [.int .i64 q0, .int .i64 q1, .int .i64 q2] 38 (by simp [Value.oneCell'])
  simp only [World.size_alloc] at hnb
  replace HB := hide (below_al (o := .cells #[.int .i64 q0, .int .i64 q1, .int .i64 q2] 38) (below_al (o := .cells #[.int .i64 p0, .int .i64 p1, .int .i64 p2] 38) (unhide HB)))
  replace HBZ := hide (((unhide HBZ).bel (below_a (.cells #[.int .i64 p0, .int .i64 p1, .int .i64 p2] 38))).bel (below_a (.cells #[.int .i64 q0, .int .i64 q1, .int .i64 q2] 38)))
  replace HX := hide (((unhide HX).bel (below_a (.cells #[.int .i64 p0, .int .i64 p1, .int .i64 p2] 38))).bel (below_a (.cells #[.int .i64 q0, .int .i64 q1, .int .i64 q2] 38)))
  replace HY := hide (((unhide HY).bel (below_a (.cells #[.int .i64 p0, .int .i64 p1, .int .i64 p2] 38))).bel (below_a (.cells #[.int .i64 q0, .int .i64 q1, .int .i64 q2] 38)))
  replace HQ1 := hide (((unhide HQ1).bel (below_a (.cells #[.int .i64 p0, .int .i64 p1, .int .i64 p2] 38))).bel (below_a (.cells #[.int .i64 q0, .int .i64 q1, .int .i64 q2] 38)))
  replace HQ2 := hide (((unhide HQ2).bel (below_a (.cells #[.int .i64 p0, .int .i64 p1, .int .i64 p2] 38))).bel (below_a (.cells #[.int .i64 q0, .int .i64 q1, .int .i64 q2] 38)))
  have HQ3 := hide ((box_new w3 [.int .i64 p0, .int .i64 p1, .int .i64 p2] 38 (by simp [Value.oneCell'])).alloc (.cells #[.int .i64 q0, .int .i64 q1, .int .i64 q2] 38))
  have HQ4 := hide hnb
  clear hnb
  have a0 := (unhide HQ1).cell 0 rfl
  have a1c := (unhide HQ1).cell 1 rfl
  have a2c := (unhide HQ1).cell 2 rfl
  have b0 := (unhide HQ2).cell 0 rfl
  have b1 := (unhide HQ2).cell 1 rfl
  have b2 := (unhide HQ2).cell 2 rfl
  have c0 := (unhide HQ3).cell 0 rfl
  have c1c := (unhide HQ3).cell 1 rfl
  have c2c := (unhide HQ3).cell 2 rfl
  have d0 := (unhide HQ4).cell 0 rfl
  have d1 := (unhide HQ4).cell 1 rfl
  have d2 := (unhide HQ4).cell 2 rfl
  go_wp2_with fail
  clear he hg
  (try clear a0 a1c a2c b0 b1 b2 c0 c1c c2c d0 d1 d2)
  clear HQ3 HQ4
  generalize (w3.alloc (.cells #[.int .i64 p0, .int .i64 p1, .int .i64 p2] 38)).alloc (.cells #[.int .i64 q0, .int .i64 q1, .int .i64 q2] 38) = WS at *
  go_loopw [13, 14] (fun b i wr => ∃ k : Nat, k ≤ xs.length ∧ i = .int .i64 k ∧ b = .bool (anyFork (xs.take k) ys) ∧ BelowOf WS wr) (fun _ i _ => xs.length - (intOf i).toNat)
  case atStart => exact ⟨0, Nat.zero_le _, rfl, rfl, Below.refl _ _⟩
  case round =>
    obtain ⟨k, hk, rfl, rfl, hbw⟩ := hrel
    have hb := hbw
    unfold BelowOf at hb
    have HBW := hide hbw
    clear hbw
    replace HB := hide (below_tr (unhide HB) hb)
    replace HBZ := hide ((unhide HBZ).bel hb)
    replace HX := hide ((unhide HX).bel hb)
    replace HY := hide ((unhide HY).bel hb)
    replace HQ1 := hide ((unhide HQ1).bel hb)
    replace HQ2 := hide ((unhide HQ2).bel hb)
    clear hb
    obtain ⟨WA, hWA⟩ : ∃ A : World, A = wr := ⟨_, rfl⟩
    subst hWA
    by_cases hlt : k < xs.length
    case pos =>
      have e0 : (0 : Int) ≤ (k : Int) := by omega
      have e1 : (k : Int) < (xs.length : Int) := by omega
      obtain ⟨⟨x0, x1, x2⟩, hx⟩ := atW hlt
      have HT1 := hide (any_take1 (ys := ys) hx)
      have HXK := hide hx
      clear hx
      generalize hbb : anyFork (xs.take k) ys = b0 at *
      clear hbb
      go_wp2_with fail
      go_loopw [13, 15] (fun b i wq => ∃ k2 : Nat, k2 ≤ ys.length ∧ i = .int .i64 k2 ∧ b = .bool (b0 || anyIn (x0, x1, x2) (ys.take k2)) ∧ BelowOf WA wq) (fun _ i _ => ys.length - (intOf i).toNat)
      case atStart => exact ⟨0, Nat.zero_le _, rfl, by simp [anyIn], Below.refl _ _⟩
      case round =>
        obtain ⟨k2, hk2, rfl, rfl, hbw⟩ := hrel
        have hb := hbw
        unfold BelowOf at hb
        have HBV := hide hbw
        clear hbw
        replace HB := hide (below_tr (unhide HB) hb)
        replace HBZ := hide ((unhide HBZ).bel hb)
        replace HX := hide ((unhide HX).bel hb)
        replace HY := hide ((unhide HY).bel hb)
        replace HQ1 := hide ((unhide HQ1).bel hb)
        replace HQ2 := hide ((unhide HQ2).bel hb)
        replace HBW := hide ((unhide HBW).bel hb)
        clear hb
        by_cases hlt2 : k2 < ys.length
        case neg =>
          obtain rfl : k2 = ys.length := by omega
          rw [List.take_length, ← unhide HT1]
          clear HBV
          go_wp2_with fail
          go_roundw
          case rel => exact ⟨k + 1, by omega, by go_num, rfl, unhide HBW⟩
          case measure => simp [intOf]; omega
        have e2 : (0 : Int) ≤ (k2 : Int) := by omega
        have e3 : (k2 : Int) < (ys.length : Int) := by omega
        obtain ⟨⟨y0, y1, y2⟩, hy⟩ := atW hlt2
        have HT2 := hide (any_take2 (x := (x0, x1, x2)) hy)
        obtain ⟨b, off, rfl, hcc⟩ := (unhide HX).2 (by intro e; subst e; simp at hlt)
        obtain ⟨b', off', rfl, hcc'⟩ := (unhide HY).2 (by intro e; subst e; simp at hlt2)
        obtain ⟨g0, g1, g2⟩ := w_cells (Below.refl _ _) hcc (unhide HXK)
        obtain ⟨h0, h1', h2'⟩ := w_cells (Below.refl _ _) hcc' hy
        have HC0 := hide g0
        have HC1 := hide g1
        have HC2 := hide g2
        have HD0 := hide h0
        have HD1 := hide h1'
        have HD2 := hide h2'
        clear g0 g1 g2 h0 h1' h2' hcc hcc' hy
        obtain ⟨WB, hWB⟩ : ∃ A : World, A = wr := ⟨_, rfl⟩
        subst hWB
        generalize hbc : (b0 || anyIn (x0, x1, x2) (ys.take k2)) = b1 at *
        have HBC := hide hbc
        clear hbc
        cases b1
        case false =>
          go_wp2_with fail
          (try clear a0 a1c a2c b0 b1 b2)
          refine wp_region_held_drew (S := fun w' => Below WB.heap.size WB w') (by kernel_rfl) (below_drew WB) (fun hHeld => ?_)
          refine wpAnyH_take (i := 0) (oi := { dst := some 73, op := _, type := _, pos := _, after := _, guard := _ }) (v := ?_) rfl (by kernel_rfl) (by kernel_rfl) (by kernel_rfl) (fun _ _ _ h => h) (Or.inl ⟨by rfl, ?_⟩) (by assumption) ?_
          rotate_left
          · intro w hSw
            first | (go_simp; done) | (go_simp; with_reducible rfl) | with_reducible rfl | rfl
          try simp only [Act.put, List.setIfInBounds_toArray, List.set_cons_zero, List.set_cons_succ]
          refine wpAnyH_take (i := 1) (oi := { dst := some 74, op := _, type := _, pos := _, after := _, guard := _ }) (v := ?_) rfl (by kernel_rfl) (by kernel_rfl) (by kernel_rfl) (fun _ _ _ h => h) (Or.inl ⟨by rfl, ?_⟩) (by assumption) ?_
          rotate_left
          · intro w hSw
            first | (go_simp; done) | (go_simp; with_reducible rfl) | with_reducible rfl | rfl
          try simp only [Act.put, List.setIfInBounds_toArray, List.set_cons_zero, List.set_cons_succ]
          refine wpAnyH_take (i := 2) (oi := { dst := some 75, op := _, type := _, pos := _, after := _, guard := _ }) (v := ?_) rfl (by kernel_rfl) (by kernel_rfl) (by kernel_rfl) (fun _ _ _ h => h) (Or.inl ⟨by rfl, ?_⟩) (by assumption) ?_
          rotate_left
          · intro w hSw
            first | (go_simp; done) | (go_simp; with_reducible rfl) | with_reducible rfl | rfl
          try simp only [Act.put, List.setIfInBounds_toArray, List.set_cons_zero, List.set_cons_succ]
          refine wpAnyH_take (i := 3) (oi := { dst := some 76, op := _, type := _, pos := _, after := _, guard := _ }) (v := ?_) rfl (by kernel_rfl) (by kernel_rfl) (by kernel_rfl) (fun _ _ _ h => h) (Or.inl ⟨by rfl, ?_⟩) (by assumption) ?_
          rotate_left
          · intro w hSw
            first | (go_simp; done) | (go_simp; with_reducible rfl) | with_reducible rfl | rfl
          try simp only [Act.put, List.setIfInBounds_toArray, List.set_cons_zero, List.set_cons_succ]
          refine wpAnyH_take (i := 4) (oi := { dst := some 77, op := _, type := _, pos := _, after := _, guard := _ }) (v := ?_) rfl (by kernel_rfl) (by kernel_rfl) (by kernel_rfl) (fun _ _ _ h => h) (Or.inl ⟨by rfl, ?_⟩) (by assumption) ?_
          rotate_left
          · intro w hSw
            have hT := (unhide HQ1).below hSw; have a0 := hT.cell 0 rfl; have a1c := hT.cell 1 rfl; have a2c := hT.cell 2 rfl; clear hT; have hT := (unhide HQ2).below hSw; have b0 := hT.cell 0 rfl; have b1 := hT.cell 1 rfl; have b2 := hT.cell 2 rfl; clear hT; have g0 := cell_bl hSw (unhide HC0); have g1 := cell_bl hSw (unhide HC1); have g2 := cell_bl hSw (unhide HC2); have h0 := cell_bl hSw (unhide HD0); have h1' := cell_bl hSw (unhide HD1); have h2' := cell_bl hSw (unhide HD2)
            first | (go_simp; done) | (go_simp; with_reducible rfl) | with_reducible rfl | rfl
          try simp only [Act.put, List.setIfInBounds_toArray, List.set_cons_zero, List.set_cons_succ]
          refine wpAnyH_take (i := 5) (oi := { dst := some 78, op := _, type := _, pos := _, after := _, guard := _ }) (v := ?_) rfl (by kernel_rfl) (by kernel_rfl) (by kernel_rfl) (fun _ _ _ h => h) (Or.inl ⟨by rfl, ?_⟩) (by assumption) ?_
          rotate_left
          · intro w hSw
            have hT := (unhide HQ1).below hSw; have a0 := hT.cell 0 rfl; have a1c := hT.cell 1 rfl; have a2c := hT.cell 2 rfl; clear hT; have hT := (unhide HQ2).below hSw; have b0 := hT.cell 0 rfl; have b1 := hT.cell 1 rfl; have b2 := hT.cell 2 rfl; clear hT; have g0 := cell_bl hSw (unhide HC0); have g1 := cell_bl hSw (unhide HC1); have g2 := cell_bl hSw (unhide HC2); have h0 := cell_bl hSw (unhide HD0); have h1' := cell_bl hSw (unhide HD1); have h2' := cell_bl hSw (unhide HD2)
            first | (go_simp; done) | (go_simp; with_reducible rfl) | with_reducible rfl | rfl
          try simp only [Act.put, List.setIfInBounds_toArray, List.set_cons_zero, List.set_cons_succ]
          refine wpAnyH_take (i := 6) (oi := { dst := some 79, op := _, type := _, pos := _, after := _, guard := _ }) (v := ?_) rfl (by kernel_rfl) (by kernel_rfl) (by kernel_rfl) (fun _ _ _ h => h) (Or.inl ⟨by rfl, ?_⟩) (by assumption) ?_
          rotate_left
          · intro w hSw
            first | (go_simp; done) | (go_simp; with_reducible rfl) | with_reducible rfl | rfl
          try simp only [Act.put, List.setIfInBounds_toArray, List.set_cons_zero, List.set_cons_succ]
          refine wpAnyH_take (i := 7) (oi := { dst := some 80, op := _, type := _, pos := _, after := _, guard := _ }) (v := ?_) rfl (by kernel_rfl) (by kernel_rfl) (by kernel_rfl) (fun _ _ _ h => h) (Or.inl ⟨by rfl, ?_⟩) (by assumption) ?_
          rotate_left
          · intro w hSw
            first | (go_simp; done) | (go_simp; with_reducible rfl) | with_reducible rfl | rfl
          try simp only [Act.put, List.setIfInBounds_toArray, List.set_cons_zero, List.set_cons_succ]
          refine wpAnyH_take (i := 8) (oi := { dst := some 81, op := _, type := _, pos := _, after := _, guard := _ }) (v := ?_) rfl (by kernel_rfl) (by kernel_rfl) (by kernel_rfl) (fun _ _ _ h => h) (Or.inl ⟨by rfl, ?_⟩) (by assumption) ?_
          rotate_left
          · intro w hSw
            have hT := (unhide HQ1).below hSw; have a0 := hT.cell 0 rfl; have a1c := hT.cell 1 rfl; have a2c := hT.cell 2 rfl; clear hT; have hT := (unhide HQ2).below hSw; have b0 := hT.cell 0 rfl; have b1 := hT.cell 1 rfl; have b2 := hT.cell 2 rfl; clear hT; have g0 := cell_bl hSw (unhide HC0); have g1 := cell_bl hSw (unhide HC1); have g2 := cell_bl hSw (unhide HC2); have h0 := cell_bl hSw (unhide HD0); have h1' := cell_bl hSw (unhide HD1); have h2' := cell_bl hSw (unhide HD2)
            first | (go_simp; done) | (go_simp; with_reducible rfl) | with_reducible rfl | rfl
          try simp only [Act.put, List.setIfInBounds_toArray, List.set_cons_zero, List.set_cons_succ]
          refine wpAnyH_take (i := 9) (oi := { dst := some 82, op := _, type := _, pos := _, after := _, guard := _ }) (v := ?_) rfl (by kernel_rfl) (by kernel_rfl) (by kernel_rfl) (fun _ _ _ h => h) (Or.inl ⟨by rfl, ?_⟩) (by assumption) ?_
          rotate_left
          · intro w hSw
            have hT := (unhide HQ1).below hSw; have a0 := hT.cell 0 rfl; have a1c := hT.cell 1 rfl; have a2c := hT.cell 2 rfl; clear hT; have hT := (unhide HQ2).below hSw; have b0 := hT.cell 0 rfl; have b1 := hT.cell 1 rfl; have b2 := hT.cell 2 rfl; clear hT; have g0 := cell_bl hSw (unhide HC0); have g1 := cell_bl hSw (unhide HC1); have g2 := cell_bl hSw (unhide HC2); have h0 := cell_bl hSw (unhide HD0); have h1' := cell_bl hSw (unhide HD1); have h2' := cell_bl hSw (unhide HD2)
            first | (go_simp; done) | (go_simp; with_reducible rfl) | with_reducible rfl | rfl
          try simp only [Act.put, List.setIfInBounds_toArray, List.set_cons_zero, List.set_cons_succ]
          have HD := below_drew WB
          generalize WB.drew = V0 at *
          refine wpAnyH_ready (rs := [10]) (by kernel_rfl) (by simp) ?_
          refine AllReadyH.cons (o := { dst := some 83, op := _, type := _, pos := _, after := _, guard := _ }) rfl (fun K hK => ?_) AllReadyH.nil
          go_simp
          go_at_call 53
          refine (c53 x0 x1 x2 y0 y1 y2 _).mono ?_
          rintro e V1 ⟨rfl, hb⟩
          replace HD := below_then HD hb
          clear hb
          generalize hff : hedFork x0 x1 x2 y0 y1 y2 = f at *
          have HFF := hide hff
          clear hff
          try go_wp2_with fail
          refine hK.out _ _ HD (fun hHeld => ?_)
          clear hK K hHeld
          try simp only [Act.put, List.setIfInBounds_toArray, List.set_cons_zero, List.set_cons_succ]
          refine wpAnyH_take (i := 11) (oi := { dst := some 84, op := _, type := _, pos := _, after := _, guard := _ }) (v := ?_) rfl (by kernel_rfl) (by kernel_rfl) (by kernel_rfl) (fun _ _ _ h => h) (Or.inl ⟨by rfl, ?_⟩) (by assumption) ?_
          rotate_left
          · intro w hSw
            first | (go_simp; done) | (go_simp; with_reducible rfl) | with_reducible rfl | rfl
          try simp only [Act.put, List.setIfInBounds_toArray, List.set_cons_zero, List.set_cons_succ]
          refine wpAnyH_take (i := 12) (oi := { dst := some 13, op := _, type := _, pos := _, after := _, guard := _ }) (v := ?_) rfl (by kernel_rfl) (by kernel_rfl) (by kernel_rfl) (fun _ _ _ h => h) (Or.inl ⟨by rfl, ?_⟩) (by assumption) ?_
          rotate_left
          · intro w hSw
            first | (go_simp; done) | (go_simp; with_reducible rfl) | with_reducible rfl | rfl
          try simp only [Act.put, List.setIfInBounds_toArray, List.set_cons_zero, List.set_cons_succ]
          refine wpAnyH_done (by kernel_rfl) ?_ _
          replace HB := hide (below_tr (unhide HB) HD)
          replace HBZ := hide ((unhide HBZ).bel HD)
          replace HX := hide ((unhide HX).bel HD)
          replace HY := hide ((unhide HY).bel HD)
          replace HQ1 := hide ((unhide HQ1).bel HD)
          replace HQ2 := hide ((unhide HQ2).bel HD)
          replace HBW := hide ((unhide HBW).bel HD)
          replace HBV := hide ((unhide HBV).bel HD)
          clear HD 
          have a0 := (unhide HQ1).cell 0 rfl
          have a1c := (unhide HQ1).cell 1 rfl
          have a2c := (unhide HQ1).cell 2 rfl
          have b0 := (unhide HQ2).cell 0 rfl
          have b1 := (unhide HQ2).cell 1 rfl
          have b2 := (unhide HQ2).cell 2 rfl
          go_wp2_with fail
          go_roundw
          case rel => exact ⟨k2 + 1, by omega, by go_num, by rw [unhide HT2, ← Bool.or_assoc, unhide HBC]; (try (first | rfl | simp)), unhide HBV⟩
          case measure => simp [intOf]; omega
        case true =>
          go_wp2_with fail
          (try clear a0 a1c a2c b0 b1 b2)
          refine wp_region_held_drew (S := fun w' => Below WB.heap.size WB w') (by kernel_rfl) (below_drew WB) (fun hHeld => ?_)
          refine wpAnyH_take (i := 0) (oi := { dst := some 73, op := _, type := _, pos := _, after := _, guard := _ }) (v := ?_) rfl (by kernel_rfl) (by kernel_rfl) (by kernel_rfl) (fun _ _ _ h => h) (Or.inl ⟨by rfl, ?_⟩) (by assumption) ?_
          rotate_left
          · intro w hSw
            first | (go_simp; done) | (go_simp; with_reducible rfl) | with_reducible rfl | rfl
          try simp only [Act.put, List.setIfInBounds_toArray, List.set_cons_zero, List.set_cons_succ]
          refine wpAnyH_take (i := 1) (oi := { dst := some 74, op := _, type := _, pos := _, after := _, guard := _ }) (v := ?_) rfl (by kernel_rfl) (by kernel_rfl) (by kernel_rfl) (fun _ _ _ h => h) (Or.inl ⟨by rfl, ?_⟩) (by assumption) ?_
          rotate_left
          · intro w hSw
            first | (go_simp; done) | (go_simp; with_reducible rfl) | with_reducible rfl | rfl
          try simp only [Act.put, List.setIfInBounds_toArray, List.set_cons_zero, List.set_cons_succ]
          refine wpAnyH_take (i := 2) (oi := { dst := some 75, op := _, type := _, pos := _, after := _, guard := _ }) (v := undef) rfl (by kernel_rfl) (by kernel_rfl) (by kernel_rfl) (fun _ _ _ h => h) (Or.inr ⟨by rfl, rfl⟩) (by assumption) ?_
          try simp only [Act.put, List.setIfInBounds_toArray, List.set_cons_zero, List.set_cons_succ]
          refine wpAnyH_take (i := 3) (oi := { dst := some 76, op := _, type := _, pos := _, after := _, guard := _ }) (v := undef) rfl (by kernel_rfl) (by kernel_rfl) (by kernel_rfl) (fun _ _ _ h => h) (Or.inr ⟨by rfl, rfl⟩) (by assumption) ?_
          try simp only [Act.put, List.setIfInBounds_toArray, List.set_cons_zero, List.set_cons_succ]
          refine wpAnyH_take (i := 4) (oi := { dst := some 77, op := _, type := _, pos := _, after := _, guard := _ }) (v := undef) rfl (by kernel_rfl) (by kernel_rfl) (by kernel_rfl) (fun _ _ _ h => h) (Or.inr ⟨by rfl, rfl⟩) (by assumption) ?_
          try simp only [Act.put, List.setIfInBounds_toArray, List.set_cons_zero, List.set_cons_succ]
          refine wpAnyH_take (i := 5) (oi := { dst := some 78, op := _, type := _, pos := _, after := _, guard := _ }) (v := undef) rfl (by kernel_rfl) (by kernel_rfl) (by kernel_rfl) (fun _ _ _ h => h) (Or.inr ⟨by rfl, rfl⟩) (by assumption) ?_
          try simp only [Act.put, List.setIfInBounds_toArray, List.set_cons_zero, List.set_cons_succ]
          refine wpAnyH_take (i := 6) (oi := { dst := some 79, op := _, type := _, pos := _, after := _, guard := _ }) (v := undef) rfl (by kernel_rfl) (by kernel_rfl) (by kernel_rfl) (fun _ _ _ h => h) (Or.inr ⟨by rfl, rfl⟩) (by assumption) ?_
          try simp only [Act.put, List.setIfInBounds_toArray, List.set_cons_zero, List.set_cons_succ]
          refine wpAnyH_take (i := 7) (oi := { dst := some 80, op := _, type := _, pos := _, after := _, guard := _ }) (v := undef) rfl (by kernel_rfl) (by kernel_rfl) (by kernel_rfl) (fun _ _ _ h => h) (Or.inr ⟨by rfl, rfl⟩) (by assumption) ?_
          try simp only [Act.put, List.setIfInBounds_toArray, List.set_cons_zero, List.set_cons_succ]
          refine wpAnyH_take (i := 8) (oi := { dst := some 81, op := _, type := _, pos := _, after := _, guard := _ }) (v := undef) rfl (by kernel_rfl) (by kernel_rfl) (by kernel_rfl) (fun _ _ _ h => h) (Or.inr ⟨by rfl, rfl⟩) (by assumption) ?_
          try simp only [Act.put, List.setIfInBounds_toArray, List.set_cons_zero, List.set_cons_succ]
          refine wpAnyH_take (i := 9) (oi := { dst := some 82, op := _, type := _, pos := _, after := _, guard := _ }) (v := undef) rfl (by kernel_rfl) (by kernel_rfl) (by kernel_rfl) (fun _ _ _ h => h) (Or.inr ⟨by rfl, rfl⟩) (by assumption) ?_
          try simp only [Act.put, List.setIfInBounds_toArray, List.set_cons_zero, List.set_cons_succ]
          have HD := below_drew WB
          generalize WB.drew = V0 at *
          refine wpAnyH_take (i := 10) (oi := { dst := some 83, op := _, type := _, pos := _, after := _, guard := _ }) (v := undef) rfl (by kernel_rfl) (by kernel_rfl) (by kernel_rfl) (fun _ _ _ h => h) (Or.inr ⟨by rfl, rfl⟩) (by assumption) ?_
          try simp only [Act.put, List.setIfInBounds_toArray, List.set_cons_zero, List.set_cons_succ]
          refine wpAnyH_take (i := 11) (oi := { dst := some 84, op := _, type := _, pos := _, after := _, guard := _ }) (v := ?_) rfl (by kernel_rfl) (by kernel_rfl) (by kernel_rfl) (fun _ _ _ h => h) (Or.inl ⟨by rfl, ?_⟩) (by assumption) ?_
          rotate_left
          · intro w hSw
            first | (go_simp; done) | (go_simp; with_reducible rfl) | with_reducible rfl | rfl
          try simp only [Act.put, List.setIfInBounds_toArray, List.set_cons_zero, List.set_cons_succ]
          refine wpAnyH_take (i := 12) (oi := { dst := some 13, op := _, type := _, pos := _, after := _, guard := _ }) (v := ?_) rfl (by kernel_rfl) (by kernel_rfl) (by kernel_rfl) (fun _ _ _ h => h) (Or.inl ⟨by rfl, ?_⟩) (by assumption) ?_
          rotate_left
          · intro w hSw
            first | (go_simp; done) | (go_simp; with_reducible rfl) | with_reducible rfl | rfl
          try simp only [Act.put, List.setIfInBounds_toArray, List.set_cons_zero, List.set_cons_succ]
          refine wpAnyH_done (by kernel_rfl) ?_ _
          replace HB := hide (below_tr (unhide HB) HD)
          replace HBZ := hide ((unhide HBZ).bel HD)
          replace HX := hide ((unhide HX).bel HD)
          replace HY := hide ((unhide HY).bel HD)
          replace HQ1 := hide ((unhide HQ1).bel HD)
          replace HQ2 := hide ((unhide HQ2).bel HD)
          replace HBW := hide ((unhide HBW).bel HD)
          replace HBV := hide ((unhide HBV).bel HD)
          clear HD 
          have a0 := (unhide HQ1).cell 0 rfl
          have a1c := (unhide HQ1).cell 1 rfl
          have a2c := (unhide HQ1).cell 2 rfl
          have b0 := (unhide HQ2).cell 0 rfl
          have b1 := (unhide HQ2).cell 1 rfl
          have b2 := (unhide HQ2).cell 2 rfl
          go_wp2_with fail
          go_roundw
          case rel => exact ⟨k2 + 1, by omega, by go_num, by rw [unhide HT2, ← Bool.or_assoc, unhide HBC]; (try (first | rfl | simp)), unhide HBV⟩
          case measure => simp [intOf]; omega
    obtain rfl : k = xs.length := by omega
    rw [List.take_length]
    clear HBW
    rcases h1 : watOk xs with _ | _
    case false =>
      have hbb := meet_off1 (ys := ys) h1
      rw [unhide HPB] at hbb
      subst hbb
      generalize anyFork xs ys = sm at *
      clear HQ1 HQ2
      go_wp2_with fail
      refine (c51 xs a1 xs.length c1 _ rfl (by omega) (unhide HX)).mono ?_
      rintro e w4 ⟨rfl, hb⟩
      rw [h1]
      replace HB := hide (below_tr (unhide HB) hb)
      replace HBZ := hide ((unhide HBZ).bel hb)
      replace HX := hide ((unhide HX).bel hb)
      replace HY := hide ((unhide HY).bel hb)
      clear hb
      go_wp2_with fail
      refine (c57 cs bo m cap' _ HN2.out hc2 (unhide HM2) (unhide HBZ)).mono ?_
      rintro e w41 ⟨v, v2, zs, es, rfl, hlz, hle, hw, he0, hb⟩
      obtain ⟨a3, c3, rfl, hc3, hr3, -⟩ := hw.row
      obtain ⟨a4, c4, rfl, hc4, hr4, -⟩ := he0.row
      replace HB := hide (below_tr (unhide HB) hb)
      replace HX := hide ((unhide HX).bel hb)
      replace HY := hide ((unhide HY).bel hb)
      clear HBZ
      have HS := hide (hr3)
      have HE := hide (hr4)
      clear hb hw he0 hr3 hr4
      go_wp2_with fail
      refine (c55 xs zs a1 a3 xs.length c1 zs.length c3 _ rfl (by omega) rfl (by omega) (unhide HX) (unhide HS)).mono ?_
      rintro e w42 ⟨rfl, hb⟩
      obtain ⟨⟨s0, s1, s2⟩, HRX⟩ : ∃ X, Hid (metX (meet xs zs) = X) := ⟨_, rfl⟩
      obtain ⟨⟨t0, t1, t2⟩, HRY⟩ : ∃ X, Hid (metY (meet xs zs) = X) := ⟨_, rfl⟩
      obtain ⟨bd, HRB⟩ : ∃ X, Hid ((meet xs zs).isSome = X) := ⟨_, rfl⟩
      simp only [metV, hedW, unhide HRX, unhide HRY, unhide HRB]
      replace HB := hide (below_tr (unhide HB) hb)
      replace HX := hide ((unhide HX).bel hb)
      replace HY := hide ((unhide HY).bel hb)
      replace HS := hide ((unhide HS).bel hb)
      replace HE := hide ((unhide HE).bel hb)
      clear hb
      have hnb := box_new (w42.alloc (.cells #[.int .i64 s0, .int .i64 s1, .int .i64 s2] 38)) [.int .i64 t0, .int .i64 t1, .int .i64 t2] 38 (by simp [Value.oneCell'])
      simp only [World.size_alloc] at hnb
      replace HB := hide (below_al (o := .cells #[.int .i64 t0, .int .i64 t1, .int .i64 t2] 38) (below_al (o := .cells #[.int .i64 s0, .int .i64 s1, .int .i64 s2] 38) (unhide HB)))
      replace HX := hide (((unhide HX).bel (below_a (.cells #[.int .i64 s0, .int .i64 s1, .int .i64 s2] 38))).bel (below_a (.cells #[.int .i64 t0, .int .i64 t1, .int .i64 t2] 38)))
      replace HY := hide (((unhide HY).bel (below_a (.cells #[.int .i64 s0, .int .i64 s1, .int .i64 s2] 38))).bel (below_a (.cells #[.int .i64 t0, .int .i64 t1, .int .i64 t2] 38)))
      replace HS := hide (((unhide HS).bel (below_a (.cells #[.int .i64 s0, .int .i64 s1, .int .i64 s2] 38))).bel (below_a (.cells #[.int .i64 t0, .int .i64 t1, .int .i64 t2] 38)))
      replace HE := hide (((unhide HE).bel (below_a (.cells #[.int .i64 s0, .int .i64 s1, .int .i64 s2] 38))).bel (below_a (.cells #[.int .i64 t0, .int .i64 t1, .int .i64 t2] 38)))
      have HQ5 := hide ((box_new w42 [.int .i64 s0, .int .i64 s1, .int .i64 s2] 38 (by simp [Value.oneCell'])).alloc (.cells #[.int .i64 t0, .int .i64 t1, .int .i64 t2] 38))
      have HQ6 := hide hnb
      clear hnb
      have m0 := (unhide HQ5).cell 0 rfl
      have m1 := (unhide HQ5).cell 1 rfl
      have m2 := (unhide HQ5).cell 2 rfl
      have n0 := (unhide HQ6).cell 0 rfl
      have n1 := (unhide HQ6).cell 1 rfl
      have n2 := (unhide HQ6).cell 2 rfl
      go_wp2_with fail
      (try clear m0 m1 m2 n0 n1 n2)
      clear HQ5 HQ6
      rcases h3 : watAll zs es with _ | _
      case false =>
        refine (c58 zs es a3 a4 zs.length c3 es.length c4 _ rfl (by omega) rfl hc4 (by omega) (unhide HS) (unhide HE)).mono ?_
        rintro e w43 ⟨rfl, hb⟩
        rw [h3]
        replace HB := hide (below_tr (unhide HB) hb)
        replace HX := hide ((unhide HX).bel hb)
        replace HY := hide ((unhide HY).bel hb)
        replace HS := hide ((unhide HS).bel hb)
        replace HE := hide ((unhide HE).bel hb)
        clear hb
        go_wp2_with fail
        refine (c30 _).mono ?_
        rintro e w44 ⟨rfl, hww⟩
        have hww := hww.symm
        subst hww
        go_wp2_with fail
        go_ret
        exact ⟨rfl, unhide HB⟩
      rcases h4 : watAll xs es with _ | _
      case false =>
        refine (c58 zs es a3 a4 zs.length c3 es.length c4 _ rfl (by omega) rfl hc4 (by omega) (unhide HS) (unhide HE)).mono ?_
        rintro e w43 ⟨rfl, hb⟩
        rw [h3]
        replace HB := hide (below_tr (unhide HB) hb)
        replace HX := hide ((unhide HX).bel hb)
        replace HY := hide ((unhide HY).bel hb)
        replace HS := hide ((unhide HS).bel hb)
        replace HE := hide ((unhide HE).bel hb)
        clear hb
        go_wp2_with fail
        refine (c58 xs es a1 a4 xs.length c1 es.length c4 _ rfl (by omega) rfl hc4 (by omega) (unhide HX) (unhide HE)).mono ?_
        rintro e w44 ⟨rfl, hb⟩
        rw [h4]
        replace HB := hide (below_tr (unhide HB) hb)
        replace HX := hide ((unhide HX).bel hb)
        replace HY := hide ((unhide HY).bel hb)
        replace HS := hide ((unhide HS).bel hb)
        replace HE := hide ((unhide HE).bel hb)
        clear hb
        go_wp2_with fail
        refine (c30 _).mono ?_
        rintro e w45 ⟨rfl, hww⟩
        have hww := hww.symm
        subst hww
        go_wp2_with fail
        go_ret
        exact ⟨rfl, unhide HB⟩
      have hbd := meet_all h3 h4
      rw [unhide HRB] at hbd
      subst hbd
      refine (c58 zs es a3 a4 zs.length c3 es.length c4 _ rfl (by omega) rfl hc4 (by omega) (unhide HS) (unhide HE)).mono ?_
      rintro e w43 ⟨rfl, hb⟩
      rw [h3]
      replace HB := hide (below_tr (unhide HB) hb)
      replace HX := hide ((unhide HX).bel hb)
      replace HY := hide ((unhide HY).bel hb)
      replace HS := hide ((unhide HS).bel hb)
      replace HE := hide ((unhide HE).bel hb)
      clear hb
      go_wp2_with fail
      refine (c58 xs es a1 a4 xs.length c1 es.length c4 _ rfl (by omega) rfl hc4 (by omega) (unhide HX) (unhide HE)).mono ?_
      rintro e w44 ⟨rfl, hb⟩
      rw [h4]
      replace HB := hide (below_tr (unhide HB) hb)
      replace HX := hide ((unhide HX).bel hb)
      replace HY := hide ((unhide HY).bel hb)
      replace HS := hide ((unhide HS).bel hb)
      replace HE := hide ((unhide HE).bel hb)
      clear hb
      go_wp2_with fail
      refine (c30 _).mono ?_
      rintro e w45 ⟨rfl, hww⟩
      have hww := hww.symm
      subst hww
      go_wp2_with fail
      go_ret
      exact ⟨rfl, unhide HB⟩
    rcases h2 : watOk ys with _ | _
    case false =>
      have hbb := meet_off2 (xs := xs) h2
      rw [unhide HPB] at hbb
      subst hbb
      generalize anyFork xs ys = sm at *
      clear HQ1 HQ2
      go_wp2_with fail
      refine (c51 xs a1 xs.length c1 _ rfl (by omega) (unhide HX)).mono ?_
      rintro e w4 ⟨rfl, hb⟩
      rw [h1]
      replace HB := hide (below_tr (unhide HB) hb)
      replace HBZ := hide ((unhide HBZ).bel hb)
      replace HX := hide ((unhide HX).bel hb)
      replace HY := hide ((unhide HY).bel hb)
      clear hb
      go_wp2_with fail
      refine (c51 ys a2 ys.length c2 _ rfl (by omega) (unhide HY)).mono ?_
      rintro e w5 ⟨rfl, hb⟩
      rw [h2]
      replace HB := hide (below_tr (unhide HB) hb)
      replace HBZ := hide ((unhide HBZ).bel hb)
      replace HX := hide ((unhide HX).bel hb)
      replace HY := hide ((unhide HY).bel hb)
      clear hb
      go_wp2_with fail
      refine (c57 cs bo m cap' _ HN2.out hc2 (unhide HM2) (unhide HBZ)).mono ?_
      rintro e w41 ⟨v, v2, zs, es, rfl, hlz, hle, hw, he0, hb⟩
      obtain ⟨a3, c3, rfl, hc3, hr3, -⟩ := hw.row
      obtain ⟨a4, c4, rfl, hc4, hr4, -⟩ := he0.row
      replace HB := hide (below_tr (unhide HB) hb)
      replace HX := hide ((unhide HX).bel hb)
      replace HY := hide ((unhide HY).bel hb)
      clear HBZ
      have HS := hide (hr3)
      have HE := hide (hr4)
      clear hb hw he0 hr3 hr4
      go_wp2_with fail
      refine (c55 xs zs a1 a3 xs.length c1 zs.length c3 _ rfl (by omega) rfl (by omega) (unhide HX) (unhide HS)).mono ?_
      rintro e w42 ⟨rfl, hb⟩
      obtain ⟨⟨s0, s1, s2⟩, HRX⟩ : ∃ X, Hid (metX (meet xs zs) = X) := ⟨_, rfl⟩
      obtain ⟨⟨t0, t1, t2⟩, HRY⟩ : ∃ X, Hid (metY (meet xs zs) = X) := ⟨_, rfl⟩
      obtain ⟨bd, HRB⟩ : ∃ X, Hid ((meet xs zs).isSome = X) := ⟨_, rfl⟩
      simp only [metV, hedW, unhide HRX, unhide HRY, unhide HRB]
      replace HB := hide (below_tr (unhide HB) hb)
      replace HX := hide ((unhide HX).bel hb)
      replace HY := hide ((unhide HY).bel hb)
      replace HS := hide ((unhide HS).bel hb)
      replace HE := hide ((unhide HE).bel hb)
      clear hb
      have hnb := box_new (w42.alloc (.cells #[.int .i64 s0, .int .i64 s1, .int .i64 s2] 38)) [.int .i64 t0, .int .i64 t1, .int .i64 t2] 38 (by simp [Value.oneCell'])
      simp only [World.size_alloc] at hnb
      replace HB := hide (below_al (o := .cells #[.int .i64 t0, .int .i64 t1, .int .i64 t2] 38) (below_al (o := .cells #[.int .i64 s0, .int .i64 s1, .int .i64 s2] 38) (unhide HB)))
      replace HX := hide (((unhide HX).bel (below_a (.cells #[.int .i64 s0, .int .i64 s1, .int .i64 s2] 38))).bel (below_a (.cells #[.int .i64 t0, .int .i64 t1, .int .i64 t2] 38)))
      replace HY := hide (((unhide HY).bel (below_a (.cells #[.int .i64 s0, .int .i64 s1, .int .i64 s2] 38))).bel (below_a (.cells #[.int .i64 t0, .int .i64 t1, .int .i64 t2] 38)))
      replace HS := hide (((unhide HS).bel (below_a (.cells #[.int .i64 s0, .int .i64 s1, .int .i64 s2] 38))).bel (below_a (.cells #[.int .i64 t0, .int .i64 t1, .int .i64 t2] 38)))
      replace HE := hide (((unhide HE).bel (below_a (.cells #[.int .i64 s0, .int .i64 s1, .int .i64 s2] 38))).bel (below_a (.cells #[.int .i64 t0, .int .i64 t1, .int .i64 t2] 38)))
      have HQ5 := hide ((box_new w42 [.int .i64 s0, .int .i64 s1, .int .i64 s2] 38 (by simp [Value.oneCell'])).alloc (.cells #[.int .i64 t0, .int .i64 t1, .int .i64 t2] 38))
      have HQ6 := hide hnb
      clear hnb
      have m0 := (unhide HQ5).cell 0 rfl
      have m1 := (unhide HQ5).cell 1 rfl
      have m2 := (unhide HQ5).cell 2 rfl
      have n0 := (unhide HQ6).cell 0 rfl
      have n1 := (unhide HQ6).cell 1 rfl
      have n2 := (unhide HQ6).cell 2 rfl
      go_wp2_with fail
      (try clear m0 m1 m2 n0 n1 n2)
      clear HQ5 HQ6
      rcases h3 : watAll zs es with _ | _
      case false =>
        refine (c58 zs es a3 a4 zs.length c3 es.length c4 _ rfl (by omega) rfl hc4 (by omega) (unhide HS) (unhide HE)).mono ?_
        rintro e w43 ⟨rfl, hb⟩
        rw [h3]
        replace HB := hide (below_tr (unhide HB) hb)
        replace HX := hide ((unhide HX).bel hb)
        replace HY := hide ((unhide HY).bel hb)
        replace HS := hide ((unhide HS).bel hb)
        replace HE := hide ((unhide HE).bel hb)
        clear hb
        go_wp2_with fail
        refine (c30 _).mono ?_
        rintro e w44 ⟨rfl, hww⟩
        have hww := hww.symm
        subst hww
        go_wp2_with fail
        go_ret
        exact ⟨rfl, unhide HB⟩
      rcases h4 : watAll xs es with _ | _
      case false =>
        refine (c58 zs es a3 a4 zs.length c3 es.length c4 _ rfl (by omega) rfl hc4 (by omega) (unhide HS) (unhide HE)).mono ?_
        rintro e w43 ⟨rfl, hb⟩
        rw [h3]
        replace HB := hide (below_tr (unhide HB) hb)
        replace HX := hide ((unhide HX).bel hb)
        replace HY := hide ((unhide HY).bel hb)
        replace HS := hide ((unhide HS).bel hb)
        replace HE := hide ((unhide HE).bel hb)
        clear hb
        go_wp2_with fail
        refine (c58 xs es a1 a4 xs.length c1 es.length c4 _ rfl (by omega) rfl hc4 (by omega) (unhide HX) (unhide HE)).mono ?_
        rintro e w44 ⟨rfl, hb⟩
        rw [h4]
        replace HB := hide (below_tr (unhide HB) hb)
        replace HX := hide ((unhide HX).bel hb)
        replace HY := hide ((unhide HY).bel hb)
        replace HS := hide ((unhide HS).bel hb)
        replace HE := hide ((unhide HE).bel hb)
        clear hb
        go_wp2_with fail
        refine (c30 _).mono ?_
        rintro e w45 ⟨rfl, hww⟩
        have hww := hww.symm
        subst hww
        go_wp2_with fail
        go_ret
        exact ⟨rfl, unhide HB⟩
      have hbd := meet_all h3 h4
      rw [unhide HRB] at hbd
      subst hbd
      refine (c58 zs es a3 a4 zs.length c3 es.length c4 _ rfl (by omega) rfl hc4 (by omega) (unhide HS) (unhide HE)).mono ?_
      rintro e w43 ⟨rfl, hb⟩
      rw [h3]
      replace HB := hide (below_tr (unhide HB) hb)
      replace HX := hide ((unhide HX).bel hb)
      replace HY := hide ((unhide HY).bel hb)
      replace HS := hide ((unhide HS).bel hb)
      replace HE := hide ((unhide HE).bel hb)
      clear hb
      go_wp2_with fail
      refine (c58 xs es a1 a4 xs.length c1 es.length c4 _ rfl (by omega) rfl hc4 (by omega) (unhide HX) (unhide HE)).mono ?_
      rintro e w44 ⟨rfl, hb⟩
      rw [h4]
      replace HB := hide (below_tr (unhide HB) hb)
      replace HX := hide ((unhide HX).bel hb)
      replace HY := hide ((unhide HY).bel hb)
      replace HS := hide ((unhide HS).bel hb)
      replace HE := hide ((unhide HE).bel hb)
      clear hb
      go_wp2_with fail
      refine (c30 _).mono ?_
      rintro e w45 ⟨rfl, hww⟩
      have hww := hww.symm
      subst hww
      go_wp2_with fail
      go_ret
      exact ⟨rfl, unhide HB⟩
    have hbb := meet_any h1 h2
    rw [unhide HPB] at hbb
    rw [← hbb]
    clear hbb
    cases bb
    case false =>
      clear HQ1 HQ2
      go_wp2_with fail
      refine (c51 xs a1 xs.length c1 _ rfl (by omega) (unhide HX)).mono ?_
      rintro e w4 ⟨rfl, hb⟩
      rw [h1]
      replace HB := hide (below_tr (unhide HB) hb)
      replace HBZ := hide ((unhide HBZ).bel hb)
      replace HX := hide ((unhide HX).bel hb)
      replace HY := hide ((unhide HY).bel hb)
      clear hb
      go_wp2_with fail
      refine (c51 ys a2 ys.length c2 _ rfl (by omega) (unhide HY)).mono ?_
      rintro e w5 ⟨rfl, hb⟩
      rw [h2]
      replace HB := hide (below_tr (unhide HB) hb)
      replace HBZ := hide ((unhide HBZ).bel hb)
      replace HX := hide ((unhide HX).bel hb)
      replace HY := hide ((unhide HY).bel hb)
      clear hb
      go_wp2_with fail
      refine (c57 cs bo m cap' _ HN2.out hc2 (unhide HM2) (unhide HBZ)).mono ?_
      rintro e w41 ⟨v, v2, zs, es, rfl, hlz, hle, hw, he0, hb⟩
      obtain ⟨a3, c3, rfl, hc3, hr3, -⟩ := hw.row
      obtain ⟨a4, c4, rfl, hc4, hr4, -⟩ := he0.row
      replace HB := hide (below_tr (unhide HB) hb)
      replace HX := hide ((unhide HX).bel hb)
      replace HY := hide ((unhide HY).bel hb)
      clear HBZ
      have HS := hide (hr3)
      have HE := hide (hr4)
      clear hb hw he0 hr3 hr4
      go_wp2_with fail
      refine (c55 xs zs a1 a3 xs.length c1 zs.length c3 _ rfl (by omega) rfl (by omega) (unhide HX) (unhide HS)).mono ?_
      rintro e w42 ⟨rfl, hb⟩
      obtain ⟨⟨s0, s1, s2⟩, HRX⟩ : ∃ X, Hid (metX (meet xs zs) = X) := ⟨_, rfl⟩
      obtain ⟨⟨t0, t1, t2⟩, HRY⟩ : ∃ X, Hid (metY (meet xs zs) = X) := ⟨_, rfl⟩
      obtain ⟨bd, HRB⟩ : ∃ X, Hid ((meet xs zs).isSome = X) := ⟨_, rfl⟩
      simp only [metV, hedW, unhide HRX, unhide HRY, unhide HRB]
      replace HB := hide (below_tr (unhide HB) hb)
      replace HX := hide ((unhide HX).bel hb)
      replace HY := hide ((unhide HY).bel hb)
      replace HS := hide ((unhide HS).bel hb)
      replace HE := hide ((unhide HE).bel hb)
      clear hb
      have hnb := box_new (w42.alloc (.cells #[.int .i64 s0, .int .i64 s1, .int .i64 s2] 38)) [.int .i64 t0, .int .i64 t1, .int .i64 t2] 38 (by simp [Value.oneCell'])
      simp only [World.size_alloc] at hnb
      replace HB := hide (below_al (o := .cells #[.int .i64 t0, .int .i64 t1, .int .i64 t2] 38) (below_al (o := .cells #[.int .i64 s0, .int .i64 s1, .int .i64 s2] 38) (unhide HB)))
      replace HX := hide (((unhide HX).bel (below_a (.cells #[.int .i64 s0, .int .i64 s1, .int .i64 s2] 38))).bel (below_a (.cells #[.int .i64 t0, .int .i64 t1, .int .i64 t2] 38)))
      replace HY := hide (((unhide HY).bel (below_a (.cells #[.int .i64 s0, .int .i64 s1, .int .i64 s2] 38))).bel (below_a (.cells #[.int .i64 t0, .int .i64 t1, .int .i64 t2] 38)))
      replace HS := hide (((unhide HS).bel (below_a (.cells #[.int .i64 s0, .int .i64 s1, .int .i64 s2] 38))).bel (below_a (.cells #[.int .i64 t0, .int .i64 t1, .int .i64 t2] 38)))
      replace HE := hide (((unhide HE).bel (below_a (.cells #[.int .i64 s0, .int .i64 s1, .int .i64 s2] 38))).bel (below_a (.cells #[.int .i64 t0, .int .i64 t1, .int .i64 t2] 38)))
      have HQ5 := hide ((box_new w42 [.int .i64 s0, .int .i64 s1, .int .i64 s2] 38 (by simp [Value.oneCell'])).alloc (.cells #[.int .i64 t0, .int .i64 t1, .int .i64 t2] 38))
      have HQ6 := hide hnb
      clear hnb
      have m0 := (unhide HQ5).cell 0 rfl
      have m1 := (unhide HQ5).cell 1 rfl
      have m2 := (unhide HQ5).cell 2 rfl
      have n0 := (unhide HQ6).cell 0 rfl
      have n1 := (unhide HQ6).cell 1 rfl
      have n2 := (unhide HQ6).cell 2 rfl
      go_wp2_with fail
      (try clear m0 m1 m2 n0 n1 n2)
      clear HQ5 HQ6
      rcases h3 : watAll zs es with _ | _
      case false =>
        refine (c58 zs es a3 a4 zs.length c3 es.length c4 _ rfl (by omega) rfl hc4 (by omega) (unhide HS) (unhide HE)).mono ?_
        rintro e w43 ⟨rfl, hb⟩
        rw [h3]
        replace HB := hide (below_tr (unhide HB) hb)
        replace HX := hide ((unhide HX).bel hb)
        replace HY := hide ((unhide HY).bel hb)
        replace HS := hide ((unhide HS).bel hb)
        replace HE := hide ((unhide HE).bel hb)
        clear hb
        go_wp2_with fail
        refine (c30 _).mono ?_
        rintro e w44 ⟨rfl, hww⟩
        have hww := hww.symm
        subst hww
        go_wp2_with fail
        go_ret
        exact ⟨rfl, unhide HB⟩
      rcases h4 : watAll xs es with _ | _
      case false =>
        refine (c58 zs es a3 a4 zs.length c3 es.length c4 _ rfl (by omega) rfl hc4 (by omega) (unhide HS) (unhide HE)).mono ?_
        rintro e w43 ⟨rfl, hb⟩
        rw [h3]
        replace HB := hide (below_tr (unhide HB) hb)
        replace HX := hide ((unhide HX).bel hb)
        replace HY := hide ((unhide HY).bel hb)
        replace HS := hide ((unhide HS).bel hb)
        replace HE := hide ((unhide HE).bel hb)
        clear hb
        go_wp2_with fail
        refine (c58 xs es a1 a4 xs.length c1 es.length c4 _ rfl (by omega) rfl hc4 (by omega) (unhide HX) (unhide HE)).mono ?_
        rintro e w44 ⟨rfl, hb⟩
        rw [h4]
        replace HB := hide (below_tr (unhide HB) hb)
        replace HX := hide ((unhide HX).bel hb)
        replace HY := hide ((unhide HY).bel hb)
        replace HS := hide ((unhide HS).bel hb)
        replace HE := hide ((unhide HE).bel hb)
        clear hb
        go_wp2_with fail
        refine (c30 _).mono ?_
        rintro e w45 ⟨rfl, hww⟩
        have hww := hww.symm
        subst hww
        go_wp2_with fail
        go_ret
        exact ⟨rfl, unhide HB⟩
      have hbd := meet_all h3 h4
      rw [unhide HRB] at hbd
      subst hbd
      refine (c58 zs es a3 a4 zs.length c3 es.length c4 _ rfl (by omega) rfl hc4 (by omega) (unhide HS) (unhide HE)).mono ?_
      rintro e w43 ⟨rfl, hb⟩
      rw [h3]
      replace HB := hide (below_tr (unhide HB) hb)
      replace HX := hide ((unhide HX).bel hb)
      replace HY := hide ((unhide HY).bel hb)
      replace HS := hide ((unhide HS).bel hb)
      replace HE := hide ((unhide HE).bel hb)
      clear hb
      go_wp2_with fail
      refine (c58 xs es a1 a4 xs.length c1 es.length c4 _ rfl (by omega) rfl hc4 (by omega) (unhide HX) (unhide HE)).mono ?_
      rintro e w44 ⟨rfl, hb⟩
      rw [h4]
      replace HB := hide (below_tr (unhide HB) hb)
      replace HX := hide ((unhide HX).bel hb)
      replace HY := hide ((unhide HY).bel hb)
      replace HS := hide ((unhide HS).bel hb)
      replace HE := hide ((unhide HE).bel hb)
      clear hb
      go_wp2_with fail
      refine (c30 _).mono ?_
      rintro e w45 ⟨rfl, hww⟩
      have hww := hww.symm
      subst hww
      go_wp2_with fail
      go_ret
      exact ⟨rfl, unhide HB⟩
    have HMF := hide (meet_fork (unhide HPX) (unhide HPY) (unhide HPB))
    have a0 := (unhide HQ1).cell 0 rfl
    have a1c := (unhide HQ1).cell 1 rfl
    have a2c := (unhide HQ1).cell 2 rfl
    have b0 := (unhide HQ2).cell 0 rfl
    have b1 := (unhide HQ2).cell 1 rfl
    have b2 := (unhide HQ2).cell 2 rfl
    go_wp2_with fail
    refine (c51 xs a1 xs.length c1 _ rfl (by omega) (unhide HX)).mono ?_
    rintro e w4 ⟨rfl, hb⟩
    rw [h1]
    (try clear a0 a1c a2c b0 b1 b2)
    replace HB := hide (below_tr (unhide HB) hb)
    replace HBZ := hide ((unhide HBZ).bel hb)
    replace HX := hide ((unhide HX).bel hb)
    replace HY := hide ((unhide HY).bel hb)
    replace HQ1 := hide ((unhide HQ1).bel hb)
    replace HQ2 := hide ((unhide HQ2).bel hb)
    clear hb
    have a0 := (unhide HQ1).cell 0 rfl
    have a1c := (unhide HQ1).cell 1 rfl
    have a2c := (unhide HQ1).cell 2 rfl
    have b0 := (unhide HQ2).cell 0 rfl
    have b1 := (unhide HQ2).cell 1 rfl
    have b2 := (unhide HQ2).cell 2 rfl
    go_wp2_with fail
    refine (c51 ys a2 ys.length c2 _ rfl (by omega) (unhide HY)).mono ?_
    rintro e w5 ⟨rfl, hb⟩
    rw [h2]
    (try clear a0 a1c a2c b0 b1 b2)
    replace HB := hide (below_tr (unhide HB) hb)
    replace HBZ := hide ((unhide HBZ).bel hb)
    replace HX := hide ((unhide HX).bel hb)
    replace HY := hide ((unhide HY).bel hb)
    replace HQ1 := hide ((unhide HQ1).bel hb)
    replace HQ2 := hide ((unhide HQ2).bel hb)
    clear hb
    have a0 := (unhide HQ1).cell 0 rfl
    have a1c := (unhide HQ1).cell 1 rfl
    have a2c := (unhide HQ1).cell 2 rfl
    have b0 := (unhide HQ2).cell 0 rfl
    have b1 := (unhide HQ2).cell 1 rfl
    have b2 := (unhide HQ2).cell 2 rfl
    go_wp2_with fail
    refine (c53 p0 p1 p2 q0 q1 q2 _).mono ?_
    rintro e w6 ⟨rfl, hb⟩
    rw [unhide HMF]
    (try clear a0 a1c a2c b0 b1 b2)
    replace HB := hide (below_tr (unhide HB) hb)
    replace HBZ := hide ((unhide HBZ).bel hb)
    replace HX := hide ((unhide HX).bel hb)
    replace HY := hide ((unhide HY).bel hb)
    clear HQ1 HQ2
    clear hb
    go_wp2_with fail
    refine (c57 cs bo m cap' _ HN2.out hc2 (unhide HM2) (unhide HBZ)).mono ?_
    rintro e w41 ⟨v, v2, zs, es, rfl, hlz, hle, hw, he0, hb⟩
    obtain ⟨a3, c3, rfl, hc3, hr3, -⟩ := hw.row
    obtain ⟨a4, c4, rfl, hc4, hr4, -⟩ := he0.row
    replace HB := hide (below_tr (unhide HB) hb)
    replace HX := hide ((unhide HX).bel hb)
    replace HY := hide ((unhide HY).bel hb)
    clear HBZ
    have HS := hide (hr3)
    have HE := hide (hr4)
    clear hb hw he0 hr3 hr4
    go_wp2_with fail
    refine (c55 xs zs a1 a3 xs.length c1 zs.length c3 _ rfl (by omega) rfl (by omega) (unhide HX) (unhide HS)).mono ?_
    rintro e w42 ⟨rfl, hb⟩
    obtain ⟨⟨s0, s1, s2⟩, HRX⟩ : ∃ X, Hid (metX (meet xs zs) = X) := ⟨_, rfl⟩
    obtain ⟨⟨t0, t1, t2⟩, HRY⟩ : ∃ X, Hid (metY (meet xs zs) = X) := ⟨_, rfl⟩
    obtain ⟨bd, HRB⟩ : ∃ X, Hid ((meet xs zs).isSome = X) := ⟨_, rfl⟩
    simp only [metV, hedW, unhide HRX, unhide HRY, unhide HRB]
    replace HB := hide (below_tr (unhide HB) hb)
    replace HX := hide ((unhide HX).bel hb)
    replace HY := hide ((unhide HY).bel hb)
    replace HS := hide ((unhide HS).bel hb)
    replace HE := hide ((unhide HE).bel hb)
    clear hb
    have hnb := box_new (w42.alloc (.cells #[.int .i64 s0, .int .i64 s1, .int .i64 s2] 38)) [.int .i64 t0, .int .i64 t1, .int .i64 t2] 38 (by simp [Value.oneCell'])
    simp only [World.size_alloc] at hnb
    replace HB := hide (below_al (o := .cells #[.int .i64 t0, .int .i64 t1, .int .i64 t2] 38) (below_al (o := .cells #[.int .i64 s0, .int .i64 s1, .int .i64 s2] 38) (unhide HB)))
    replace HX := hide (((unhide HX).bel (below_a (.cells #[.int .i64 s0, .int .i64 s1, .int .i64 s2] 38))).bel (below_a (.cells #[.int .i64 t0, .int .i64 t1, .int .i64 t2] 38)))
    replace HY := hide (((unhide HY).bel (below_a (.cells #[.int .i64 s0, .int .i64 s1, .int .i64 s2] 38))).bel (below_a (.cells #[.int .i64 t0, .int .i64 t1, .int .i64 t2] 38)))
    replace HS := hide (((unhide HS).bel (below_a (.cells #[.int .i64 s0, .int .i64 s1, .int .i64 s2] 38))).bel (below_a (.cells #[.int .i64 t0, .int .i64 t1, .int .i64 t2] 38)))
    replace HE := hide (((unhide HE).bel (below_a (.cells #[.int .i64 s0, .int .i64 s1, .int .i64 s2] 38))).bel (below_a (.cells #[.int .i64 t0, .int .i64 t1, .int .i64 t2] 38)))
    have HQ5 := hide ((box_new w42 [.int .i64 s0, .int .i64 s1, .int .i64 s2] 38 (by simp [Value.oneCell'])).alloc (.cells #[.int .i64 t0, .int .i64 t1, .int .i64 t2] 38))
    have HQ6 := hide hnb
    clear hnb
    have m0 := (unhide HQ5).cell 0 rfl
    have m1 := (unhide HQ5).cell 1 rfl
    have m2 := (unhide HQ5).cell 2 rfl
    have n0 := (unhide HQ6).cell 0 rfl
    have n1 := (unhide HQ6).cell 1 rfl
    have n2 := (unhide HQ6).cell 2 rfl
    go_wp2_with fail
    (try clear m0 m1 m2 n0 n1 n2)
    clear HQ5 HQ6
    rcases h3 : watAll zs es with _ | _
    case false =>
      refine (c58 zs es a3 a4 zs.length c3 es.length c4 _ rfl (by omega) rfl hc4 (by omega) (unhide HS) (unhide HE)).mono ?_
      rintro e w43 ⟨rfl, hb⟩
      rw [h3]
      replace HB := hide (below_tr (unhide HB) hb)
      replace HX := hide ((unhide HX).bel hb)
      replace HY := hide ((unhide HY).bel hb)
      replace HS := hide ((unhide HS).bel hb)
      replace HE := hide ((unhide HE).bel hb)
      clear hb
      go_wp2_with fail
      refine (c30 _).mono ?_
      rintro e w44 ⟨rfl, hww⟩
      have hww := hww.symm
      subst hww
      go_wp2_with fail
      go_ret
      exact ⟨rfl, unhide HB⟩
    rcases h4 : watAll xs es with _ | _
    case false =>
      refine (c58 zs es a3 a4 zs.length c3 es.length c4 _ rfl (by omega) rfl hc4 (by omega) (unhide HS) (unhide HE)).mono ?_
      rintro e w43 ⟨rfl, hb⟩
      rw [h3]
      replace HB := hide (below_tr (unhide HB) hb)
      replace HX := hide ((unhide HX).bel hb)
      replace HY := hide ((unhide HY).bel hb)
      replace HS := hide ((unhide HS).bel hb)
      replace HE := hide ((unhide HE).bel hb)
      clear hb
      go_wp2_with fail
      refine (c58 xs es a1 a4 xs.length c1 es.length c4 _ rfl (by omega) rfl hc4 (by omega) (unhide HX) (unhide HE)).mono ?_
      rintro e w44 ⟨rfl, hb⟩
      rw [h4]
      replace HB := hide (below_tr (unhide HB) hb)
      replace HX := hide ((unhide HX).bel hb)
      replace HY := hide ((unhide HY).bel hb)
      replace HS := hide ((unhide HS).bel hb)
      replace HE := hide ((unhide HE).bel hb)
      clear hb
      go_wp2_with fail
      refine (c30 _).mono ?_
      rintro e w45 ⟨rfl, hww⟩
      have hww := hww.symm
      subst hww
      go_wp2_with fail
      go_ret
      exact ⟨rfl, unhide HB⟩
    have hbd := meet_all h3 h4
    rw [unhide HRB] at hbd
    subst hbd
    refine (c58 zs es a3 a4 zs.length c3 es.length c4 _ rfl (by omega) rfl hc4 (by omega) (unhide HS) (unhide HE)).mono ?_
    rintro e w43 ⟨rfl, hb⟩
    rw [h3]
    replace HB := hide (below_tr (unhide HB) hb)
    replace HX := hide ((unhide HX).bel hb)
    replace HY := hide ((unhide HY).bel hb)
    replace HS := hide ((unhide HS).bel hb)
    replace HE := hide ((unhide HE).bel hb)
    clear hb
    go_wp2_with fail
    refine (c58 xs es a1 a4 xs.length c1 es.length c4 _ rfl (by omega) rfl hc4 (by omega) (unhide HX) (unhide HE)).mono ?_
    rintro e w44 ⟨rfl, hb⟩
    rw [h4]
    replace HB := hide (below_tr (unhide HB) hb)
    replace HX := hide ((unhide HX).bel hb)
    replace HY := hide ((unhide HY).bel hb)
    replace HS := hide ((unhide HS).bel hb)
    replace HE := hide ((unhide HE).bel hb)
    clear hb
    go_wp2_with fail
    refine (c30 _).mono ?_
    rintro e w45 ⟨rfl, hww⟩
    have hww := hww.symm
    subst hww
    go_wp2_with fail
    go_ret
    exact ⟨rfl, unhide HB⟩
end Go.Proofs.Ytdpkdcdieajkbaa
