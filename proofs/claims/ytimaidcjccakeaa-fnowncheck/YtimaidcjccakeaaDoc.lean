/-
  The draw of what is said of how a ticket stands.
-/
import Derived.Test.YtimaidcjccakeaaDrr
import Derived.Test.YtimaidcjccakeaaDrg
import Derived.Test.YtimaidcjccakeaaOwr
namespace Go.Proofs.Ytimaidcjccakeaa
open Go.RowKit
set_option linter.unusedVariables false
set_option maxRecDepth 100000

theorem rrow_lt {w : World} {ao : Option Addr} {rs : List Tm.Rw} (h : RRow w ao rs) (hne : rs ≠ []) : ∀ a, ao = some a → a.block < w.heap.size := by
  obtain ⟨b, off, rfl, hc⟩ := h.2 hne
  intro a ha
  cases ha
  cases rs with
  | nil => exact absurd rfl hne
  | cons x xs => exact World.block_lt_of_cell? w _ (hc 0 (.int .i64 x.1) (by rw [List.flatMap_cons]; rfl))
/-- a root, a ticket, how it is said to stand, and a proof -/
def OwnChkD (w : World) (e : Ending) (w' : World) : Prop :=
  ∃ (root t a c : Int) (d : Bool) (ps : List Int) (ap : Option Addr) (n cap : Nat), e = .returned (.tuple #[.int .i64 root, .int .i64 t, rowV a c d, .slice ap n cap]) ∧ ps.length = n ∧ n ≤ cap ∧ n ≤ 6 ∧ FitR (a, c, d) ∧ Row w' ap ps ∧ Below w.heap.size w w'
theorem rowD_fit {a c : Int} {d : Bool} (ha : -1 ≤ a ∧ a ≤ 5) (hc : c ∈ [0, 10, 50, 51, -1]) : FitR (a, c, d) := by
  refine ⟨?_, ?_⟩
  · show _ ≤ a ∧ a ≤ _; omega
  · show _ ≤ c ∧ c ≤ _; simp at hc; omega

set_option maxHeartbeats 8000000 in
theorem c60 (bs : List Int) (ao : Option Addr) (n cap : Nat) (w : World) (hn : bs.length = n) (hc : n ≤ cap) (hm : cap ≤ maxLen) (hB : Bytes w ao bs) :
    Calls Try.prog 60 #[.slice ao n cap] w (OwnChkD w) := by
  have HB := hide (Below.refl w.heap.size w)
  have HBY := hide hB
  clear hB
  replace HB := hide (below_al (o := .cells #[.int .i64 0, .int .i64 0, .bool false] 42) (unhide HB))
  replace HBY := hide ((unhide HBY).bel (below_a (.cells #[.int .i64 0, .int .i64 0, .bool false] 42)))
  have HZ := hide (box_new w [.int .i64 0, .int .i64 0, .bool false] 42 (by simp [Value.oneCell']))
  (try simp only [World.size_alloc] at HZ)
  have z0 := (unhide HZ).cell 0 rfl
  have z0f := (unhide HZ).frozen 0 rfl
  have z1 := (unhide HZ).cell 1 rfl
  have z1f := (unhide HZ).frozen 1 rfl
  have z2 := (unhide HZ).cell 2 rfl
  have z2f := (unhide HZ).frozen 2 rfl
  go_enter Try.func60, Try.ntmps60
  go_wp2_with fail
  refine (c129 bs ao n cap _ hn hc hm (unhide HBY)).mono ?_
  rintro e w1 ⟨rfl, hr, hb, hl1⟩
  (try clear z0 z0f z1 z1f z2 z2f)
  clear HBY
  replace HB := hide (below_tr (unhide HB) hb)
  replace HZ := hide ((unhide HZ).bel hb)
  (try simp only [World.size_alloc] at hr hl1)
  (try simp only [World.size_alloc])
  generalize hrr : w.heap.size + 1 = r at *
  have HRd := hide hr
  have HRR := hide hrr
  have hwr : w.heap.size ≤ r := by omega
  have hne0 : r ≠ w.heap.size := by omega
  clear hr hb hrr
  have z0 := (unhide HZ).cell 0 rfl
  have z0f := (unhide HZ).frozen 0 rfl
  have z1 := (unhide HZ).cell 1 rfl
  have z1f := (unhide HZ).frozen 1 rfl
  have z2 := (unhide HZ).cell 2 rfl
  have z2f := (unhide HZ).frozen 2 rfl
  go_wp2_with fail
  refine (c135 r (0) 99999 _ (by omega) (by omega) (unhide HRd)).mono ?_
  rintro e w2 ⟨ars, nrs, crs, rs, rfl, hnrs, h8rs, hcrs, hzrs, hrw, hr, hg⟩
  have hbasers : r < w1.heap.size := (unhide HRd).lt
  (try clear z0 z0f z1 z1f z2 z2f)
  replace HB := hide (below_gr (unhide HB) hg (by omega))
  replace HZ := hide ((unhide HZ).kg hg (by omega))
  replace HRd := hide hr
  clear hr hg
  have HW := hide hrw
  clear hrw
  have z0 := (unhide HZ).cell 0 rfl
  have z0f := (unhide HZ).frozen 0 rfl
  have z1 := (unhide HZ).cell 1 rfl
  have z1f := (unhide HZ).frozen 1 rfl
  have z2 := (unhide HZ).cell 2 rfl
  have z2f := (unhide HZ).frozen 2 rfl
  go_wp2_with fail
  refine (c144 r (0 + 270) 8 _ (by omega) (unhide HRd)).mono ?_
  rintro e w3 ⟨t, rfl, ta, tb, hr, hg⟩
  have tb := tb (by omega)
  (try clear z0 z0f z1 z1f z2 z2f)
  replace HB := hide (below_gr (unhide HB) hg (by omega))
  replace HZ := hide ((unhide HZ).kg hg (by omega))
  replace HW := hide ((unhide HW).kg hg (by omega))
  replace HRd := hide hr
  clear hr hg
  have z0 := (unhide HZ).cell 0 rfl
  have z0f := (unhide HZ).frozen 0 rfl
  have z1 := (unhide HZ).cell 1 rfl
  have z1f := (unhide HZ).frozen 1 rfl
  have z2 := (unhide HZ).cell 2 rfl
  have z2f := (unhide HZ).frozen 2 rfl
  go_wp2_with fail
  obtain ⟨tN, rfl⟩ := Int.eq_ofNat_of_zero_le ta
  refine (c154 r (0 + 270 + 1) _ (by omega) (unhide HRd)).mono ?_
  rintro e w4 ⟨a, c, d, rfl, ha, hcc, hr, hg⟩
  have HFR := hide (rowD_fit (d := d) ha hcc)
  clear ha hcc
  (try clear z0 z0f z1 z1f z2 z2f)
  replace HB := hide (below_gr (unhide HB) hg (by omega))
  replace HZ := hide ((unhide HZ).kg hg (by omega))
  replace HW := hide ((unhide HW).kg hg (by omega))
  replace HRd := hide hr
  clear hr hg
  have z0 := (unhide HZ).cell 0 rfl
  have z0f := (unhide HZ).frozen 0 rfl
  have z1 := (unhide HZ).cell 1 rfl
  have z1f := (unhide HZ).frozen 1 rfl
  have z2 := (unhide HZ).cell 2 rfl
  have z2f := (unhide HZ).frozen 2 rfl
  have hwx := (unhide HZ).lt
  have HBL := hide (fun hne => rrow_lt (unhide HW).1 hne)
  (try clear z0 z0f z1 z1f z2 z2f)
  have hzHX : r < w4.heap.size := (unhide HRd).lt
  replace HB := hide (below_al (o := .cells #[.int .i64 a, .int .i64 c, .bool d] 42) (unhide HB))
  replace HRd := hide ((unhide HRd).alloc (.cells #[.int .i64 a, .int .i64 c, .bool d] 42))
  replace HZ := hide ((unhide HZ).bel (below_a (.cells #[.int .i64 a, .int .i64 c, .bool d] 42)))
  replace HW := hide ((unhide HW).bel (below_a (.cells #[.int .i64 a, .int .i64 c, .bool d] 42)))
  have HX := hide (box_new w4 [.int .i64 a, .int .i64 c, .bool d] 42 (by simp [Value.oneCell']))
  have z0 := (unhide HZ).cell 0 rfl
  have z0f := (unhide HZ).frozen 0 rfl
  have z1 := (unhide HZ).cell 1 rfl
  have z1f := (unhide HZ).frozen 1 rfl
  have z2 := (unhide HZ).cell 2 rfl
  have z2f := (unhide HZ).frozen 2 rfl
  have x0 := (unhide HX).cell 0 rfl
  have x0f := (unhide HX).frozen 0 rfl
  have x1 := (unhide HX).cell 1 rfl
  have x1f := (unhide HX).frozen 1 rfl
  have x2 := (unhide HX).cell 2 rfl
  have x2f := (unhide HX).frozen 2 rfl
  by_cases h8 : nrs = 8
  case neg =>
    have d8 : ((nrs : Int) == 8) = false := by rw [beq_eq_false_iff_ne]; omega
    have hry : r + 1 ≤ (w4.alloc (.cells #[.int .i64 a, .int .i64 c, .bool d] 42)).heap.size := by rw [World.size_alloc]; omega
    go_wp2_with fail
    refine (c54 rs (tN : Int) ars nrs crs _ hnrs (by omega) (unhide HW).1).mono ?_
    rintro e y1 ⟨v, rfl, ho, hb⟩
    obtain ⟨ap, cp, rfl, hcp, hrr, hbl⟩ := ho.row
    have hbz := fun a ha => (hbl a ha).1
    (try clear z0 z0f z1 z1f z2 z2f x0 x0f x1 x1f x2 x2f)
    replace HB := hide (below_tr (unhide HB) hb)
    replace HRd := hide ((unhide HRd).bel hb)
    replace HZ := hide ((unhide HZ).bel hb)
    replace HW := hide ((unhide HW).bel hb)
    replace HX := hide ((unhide HX).bel hb)
    clear hb
    have z0 := (unhide HZ).cell 0 rfl
    have z0f := (unhide HZ).frozen 0 rfl
    have z1 := (unhide HZ).cell 1 rfl
    have z1f := (unhide HZ).frozen 1 rfl
    have z2 := (unhide HZ).cell 2 rfl
    have z2f := (unhide HZ).frozen 2 rfl
    have x0 := (unhide HX).cell 0 rfl
    have x0f := (unhide HX).frozen 0 rfl
    have x1 := (unhide HX).cell 1 rfl
    have x1f := (unhide HX).frozen 1 rfl
    have x2 := (unhide HX).cell 2 rfl
    have x2f := (unhide HX).frozen 2 rfl
    have hpl := ownProof_len rs (tN : Int)
    generalize hps : ownProof rs (tN : Int) = ps at *
    have HP : Hid (RowA y1 (r + 1) ap ps) := ⟨hrr, fun a ha => by have h1 := hbz a ha; have h2 := hry; omega⟩
    clear hps ho hrr hbl hbz hry
    go_wp2_with fail
    refine (c55 rs ars nrs crs _ hnrs (by omega) (unhide HW).1).mono ?_
    rintro e y2 ⟨rfl, hb⟩
    (try clear z0 z0f z1 z1f z2 z2f x0 x0f x1 x1f x2 x2f)
    replace HB := hide (below_tr (unhide HB) hb)
    replace HRd := hide ((unhide HRd).bel hb)
    replace HZ := hide ((unhide HZ).bel hb)
    replace HW := hide ((unhide HW).bel hb)
    replace HX := hide ((unhide HX).bel hb)
    replace HP := hide ((unhide HP).bel hb)
    clear hb
    have z0 := (unhide HZ).cell 0 rfl
    have z0f := (unhide HZ).frozen 0 rfl
    have z1 := (unhide HZ).cell 1 rfl
    have z1f := (unhide HZ).frozen 1 rfl
    have z2 := (unhide HZ).cell 2 rfl
    have z2f := (unhide HZ).frozen 2 rfl
    have x0 := (unhide HX).cell 0 rfl
    have x0f := (unhide HX).frozen 0 rfl
    have x1 := (unhide HX).cell 1 rfl
    have x1f := (unhide HX).frozen 1 rfl
    have x2 := (unhide HX).cell 2 rfl
    have x2f := (unhide HX).frozen 2 rfl
    generalize ownRoot rs = rt at *
    (try clear z0 z0f z1 z1f z2 z2f x0 x0f x1 x1f x2 x2f)
    clear HW
    have z0 := (unhide HZ).cell 0 rfl
    have z0f := (unhide HZ).frozen 0 rfl
    have z1 := (unhide HZ).cell 1 rfl
    have z1f := (unhide HZ).frozen 1 rfl
    have z2 := (unhide HZ).cell 2 rfl
    have z2f := (unhide HZ).frozen 2 rfl
    have x0 := (unhide HX).cell 0 rfl
    have x0f := (unhide HX).frozen 0 rfl
    have x1 := (unhide HX).cell 1 rfl
    have x1f := (unhide HX).frozen 1 rfl
    have x2 := (unhide HX).cell 2 rfl
    have x2f := (unhide HX).frozen 2 rfl
    go_wp2_with fail
    refine (c155 r (0 + 270 + 1 + 3) 8 _ (by omega) (by omega) (unhide HRd)).mono ?_
    rintro e w7 ⟨b1, rfl, hr, hg⟩
    (try clear z0 z0f z1 z1f z2 z2f x0 x0f x1 x1f x2 x2f)
    replace HB := hide (below_gr (unhide HB) hg (by omega))
    replace HZ := hide ((unhide HZ).kg hg (by omega))
    replace HX := hide ((unhide HX).kg hg (by omega))
    replace HP := hide ((unhide HP).kg hg (by omega))
    replace HRd := hide hr
    clear hr hg
    have z0 := (unhide HZ).cell 0 rfl
    have z0f := (unhide HZ).frozen 0 rfl
    have z1 := (unhide HZ).cell 1 rfl
    have z1f := (unhide HZ).frozen 1 rfl
    have z2 := (unhide HZ).cell 2 rfl
    have z2f := (unhide HZ).frozen 2 rfl
    have x0 := (unhide HX).cell 0 rfl
    have x0f := (unhide HX).frozen 0 rfl
    have x1 := (unhide HX).cell 1 rfl
    have x1f := (unhide HX).frozen 1 rfl
    have x2 := (unhide HX).cell 2 rfl
    have x2f := (unhide HX).frozen 2 rfl
    cases b1
    case false =>
      go_wp2_with fail
      refine (c155 r (0 + 270 + 1 + 3 + 1) 8 _ (by omega) (by omega) (unhide HRd)).mono ?_
      rintro e w8 ⟨b2, rfl, hr, hg⟩
      (try clear z0 z0f z1 z1f z2 z2f x0 x0f x1 x1f x2 x2f)
      replace HB := hide (below_gr (unhide HB) hg (by omega))
      replace HZ := hide ((unhide HZ).kg hg (by omega))
      replace HX := hide ((unhide HX).kg hg (by omega))
      replace HP := hide ((unhide HP).kg hg (by omega))
      replace HRd := hide hr
      clear hr hg
      have z0 := (unhide HZ).cell 0 rfl
      have z0f := (unhide HZ).frozen 0 rfl
      have z1 := (unhide HZ).cell 1 rfl
      have z1f := (unhide HZ).frozen 1 rfl
      have z2 := (unhide HZ).cell 2 rfl
      have z2f := (unhide HZ).frozen 2 rfl
      have x0 := (unhide HX).cell 0 rfl
      have x0f := (unhide HX).frozen 0 rfl
      have x1 := (unhide HX).cell 1 rfl
      have x1f := (unhide HX).frozen 1 rfl
      have x2 := (unhide HX).cell 2 rfl
      have x2f := (unhide HX).frozen 2 rfl
      cases b2
      case false =>
        go_wp2_with fail
        refine (c155 r (0 + 270 + 1 + 3 + 1 + 1) 12 _ (by omega) (by omega) (unhide HRd)).mono ?_
        rintro e w9 ⟨b3, rfl, hr, hg⟩
        (try clear z0 z0f z1 z1f z2 z2f x0 x0f x1 x1f x2 x2f)
        replace HB := hide (below_gr (unhide HB) hg (by omega))
        replace HZ := hide ((unhide HZ).kg hg (by omega))
        replace HX := hide ((unhide HX).kg hg (by omega))
        replace HP := hide ((unhide HP).kg hg (by omega))
        replace HRd := hide hr
        clear hr hg
        have z0 := (unhide HZ).cell 0 rfl
        have z0f := (unhide HZ).frozen 0 rfl
        have z1 := (unhide HZ).cell 1 rfl
        have z1f := (unhide HZ).frozen 1 rfl
        have z2 := (unhide HZ).cell 2 rfl
        have z2f := (unhide HZ).frozen 2 rfl
        have x0 := (unhide HX).cell 0 rfl
        have x0f := (unhide HX).frozen 0 rfl
        have x1 := (unhide HX).cell 1 rfl
        have x1f := (unhide HX).frozen 1 rfl
        have x2 := (unhide HX).cell 2 rfl
        have x2f := (unhide HX).frozen 2 rfl
        cases b3
        case false =>
          go_wp2_with fail
          go_region
          all_goals
            go_wp2_with fail
            exact bodyPost_ret (v := .tuple #[.int .i64 rt, .int .i64 (tN : Int), rowV a c d, .slice ap (ps.length) (cp)]) (by simp [results, Try.results60, go_sem, z0, z1, z2]) rfl ⟨_, _, _, _, _, ps, _, _, _, rfl, rfl, by omega, by omega, unhide HFR, (((((unhide HP).oth _ (by omega)).oth _ (by omega)).oth _ (by omega)).bel (below_drew _)).1, (below_sc (below_sc (below_sc (unhide HB) (by dsimp only; omega)) (by dsimp only; omega)) (by dsimp only; omega)).drew⟩
        go_wp2_with fail
        refine (pick_lit r (0 + 270 + 1 + 3 + 1 + 1 + 1) 2 _ _ (by omega) (by omega) (unhide HRd)).mono ?_
        rintro e w10 ⟨z, rfl, hz, hz2', hr, hg, hlt⟩
        obtain ⟨zN, yy, rfl, hzN, hy, hcy⟩ := lit_val (l := [-1, 8]) hlt hz (by simpa using hz2')
        (try simp only [World.size_alloc] at hcy)
        (try clear z0 z0f z1 z1f z2 z2f x0 x0f x1 x1f x2 x2f)
        replace HB := hide (below_gr (unhide HB) hg (by omega))
        replace HZ := hide ((unhide HZ).kg hg (by omega))
        replace HX := hide ((unhide HX).kg hg (by omega))
        replace HP := hide ((unhide HP).kg hg (by omega))
        replace HRd := hide hr
        clear hr hg
        clear hlt hy
        have z0 := (unhide HZ).cell 0 rfl
        have z0f := (unhide HZ).frozen 0 rfl
        have z1 := (unhide HZ).cell 1 rfl
        have z1f := (unhide HZ).frozen 1 rfl
        have z2 := (unhide HZ).cell 2 rfl
        have z2f := (unhide HZ).frozen 2 rfl
        have x0 := (unhide HX).cell 0 rfl
        have x0f := (unhide HX).frozen 0 rfl
        have x1 := (unhide HX).cell 1 rfl
        have x1f := (unhide HX).frozen 1 rfl
        have x2 := (unhide HX).cell 2 rfl
        have x2f := (unhide HX).frozen 2 rfl
        go_wp2_with fail
        go_region
        all_goals
          go_wp2_with fail
          exact bodyPost_ret (v := .tuple #[.int .i64 rt, .int .i64 yy, rowV a c d, .slice ap (ps.length) (cp)]) (by simp [results, Try.results60, go_sem, z0, z1, z2]) rfl ⟨_, _, _, _, _, ps, _, _, _, rfl, rfl, by omega, by omega, unhide HFR, (((((unhide HP).oth _ (by omega)).oth _ (by omega)).oth _ (by omega)).bel (below_drew _)).1, (below_sc (below_sc (below_sc (unhide HB) (by dsimp only; omega)) (by dsimp only; omega)) (by dsimp only; omega)).drew⟩
      by_cases hz : ps = []
      case pos =>
        subst hz
        go_wp2_with fail
        refine (c155 r (0 + 270 + 1 + 3 + 1 + 1) 12 _ (by omega) (by omega) (unhide HRd)).mono ?_
        rintro e w9 ⟨b3, rfl, hr, hg⟩
        (try clear z0 z0f z1 z1f z2 z2f x0 x0f x1 x1f x2 x2f)
        replace HB := hide (below_gr (unhide HB) hg (by omega))
        replace HZ := hide ((unhide HZ).kg hg (by omega))
        replace HX := hide ((unhide HX).kg hg (by omega))
        replace HP := hide ((unhide HP).kg hg (by omega))
        replace HRd := hide hr
        clear hr hg
        have z0 := (unhide HZ).cell 0 rfl
        have z0f := (unhide HZ).frozen 0 rfl
        have z1 := (unhide HZ).cell 1 rfl
        have z1f := (unhide HZ).frozen 1 rfl
        have z2 := (unhide HZ).cell 2 rfl
        have z2f := (unhide HZ).frozen 2 rfl
        have x0 := (unhide HX).cell 0 rfl
        have x0f := (unhide HX).frozen 0 rfl
        have x1 := (unhide HX).cell 1 rfl
        have x1f := (unhide HX).frozen 1 rfl
        have x2 := (unhide HX).cell 2 rfl
        have x2f := (unhide HX).frozen 2 rfl
        cases b3
        case false =>
          go_wp2_with fail
          go_region
          all_goals
            go_wp2_with fail
            exact bodyPost_ret (v := .tuple #[.int .i64 rt, .int .i64 (tN : Int), rowV a c d, .slice ap (0) (cp)]) (by simp [results, Try.results60, go_sem, z0, z1, z2]) rfl ⟨_, _, _, _, _, [], _, _, _, rfl, rfl, by omega, by omega, unhide HFR, Row.nil _ _, (below_sc (below_sc (below_sc (unhide HB) (by dsimp only; omega)) (by dsimp only; omega)) (by dsimp only; omega)).drew⟩
        go_wp2_with fail
        refine (pick_lit r (0 + 270 + 1 + 3 + 1 + 1 + 1) 2 _ _ (by omega) (by omega) (unhide HRd)).mono ?_
        rintro e w10 ⟨z, rfl, hz, hz2', hr, hg, hlt⟩
        obtain ⟨zN, yy, rfl, hzN, hy, hcy⟩ := lit_val (l := [-1, 8]) hlt hz (by simpa using hz2')
        (try simp only [World.size_alloc] at hcy)
        (try clear z0 z0f z1 z1f z2 z2f x0 x0f x1 x1f x2 x2f)
        replace HB := hide (below_gr (unhide HB) hg (by omega))
        replace HZ := hide ((unhide HZ).kg hg (by omega))
        replace HX := hide ((unhide HX).kg hg (by omega))
        replace HP := hide ((unhide HP).kg hg (by omega))
        replace HRd := hide hr
        clear hr hg
        clear hlt hy
        have z0 := (unhide HZ).cell 0 rfl
        have z0f := (unhide HZ).frozen 0 rfl
        have z1 := (unhide HZ).cell 1 rfl
        have z1f := (unhide HZ).frozen 1 rfl
        have z2 := (unhide HZ).cell 2 rfl
        have z2f := (unhide HZ).frozen 2 rfl
        have x0 := (unhide HX).cell 0 rfl
        have x0f := (unhide HX).frozen 0 rfl
        have x1 := (unhide HX).cell 1 rfl
        have x1f := (unhide HX).frozen 1 rfl
        have x2 := (unhide HX).cell 2 rfl
        have x2f := (unhide HX).frozen 2 rfl
        go_wp2_with fail
        go_region
        all_goals
          go_wp2_with fail
          exact bodyPost_ret (v := .tuple #[.int .i64 rt, .int .i64 yy, rowV a c d, .slice ap (0) (cp)]) (by simp [results, Try.results60, go_sem, z0, z1, z2]) rfl ⟨_, _, _, _, _, [], _, _, _, rfl, rfl, by omega, by omega, unhide HFR, Row.nil _ _, (below_sc (below_sc (below_sc (unhide HB) (by dsimp only; omega)) (by dsimp only; omega)) (by dsimp only; omega)).drew⟩
      have hpos : 0 < ps.length := List.length_pos_iff.2 hz
      obtain ⟨b, off, rfl, -⟩ := (unhide HP).1.2 hz
      have hgt : (0 : Int) < (ps.length : Int) := by omega
      clear hz
      by_cases hc1 : cp = 1
      case pos =>
        subst hc1
        go_wp2_with fail
        refine (c155 r (0 + 270 + 1 + 3 + 1 + 1) 12 _ (by omega) (by omega) (unhide HRd)).mono ?_
        rintro e w9 ⟨b3, rfl, hr, hg⟩
        (try clear z0 z0f z1 z1f z2 z2f x0 x0f x1 x1f x2 x2f)
        replace HB := hide (below_gr (unhide HB) hg (by omega))
        replace HZ := hide ((unhide HZ).kg hg (by omega))
        replace HX := hide ((unhide HX).kg hg (by omega))
        replace HP := hide ((unhide HP).kg hg (by omega))
        replace HRd := hide hr
        clear hr hg
        have z0 := (unhide HZ).cell 0 rfl
        have z0f := (unhide HZ).frozen 0 rfl
        have z1 := (unhide HZ).cell 1 rfl
        have z1f := (unhide HZ).frozen 1 rfl
        have z2 := (unhide HZ).cell 2 rfl
        have z2f := (unhide HZ).frozen 2 rfl
        have x0 := (unhide HX).cell 0 rfl
        have x0f := (unhide HX).frozen 0 rfl
        have x1 := (unhide HX).cell 1 rfl
        have x1f := (unhide HX).frozen 1 rfl
        have x2 := (unhide HX).cell 2 rfl
        have x2f := (unhide HX).frozen 2 rfl
        cases b3
        case false =>
          go_wp2_with fail
          go_region
          all_goals
            go_wp2_with fail
            exact bodyPost_ret (v := .tuple #[.int .i64 rt, .int .i64 (tN : Int), rowV a c d, .slice (some ⟨b, off, none⟩) (0) (0)]) (by simp [results, Try.results60, go_sem, z0, z1, z2]) rfl ⟨_, _, _, _, _, [], _, _, _, rfl, rfl, by omega, by omega, unhide HFR, Row.nil _ _, (below_sc (below_sc (below_sc (unhide HB) (by dsimp only; omega)) (by dsimp only; omega)) (by dsimp only; omega)).drew⟩
        go_wp2_with fail
        refine (pick_lit r (0 + 270 + 1 + 3 + 1 + 1 + 1) 2 _ _ (by omega) (by omega) (unhide HRd)).mono ?_
        rintro e w10 ⟨z, rfl, hz, hz2', hr, hg, hlt⟩
        obtain ⟨zN, yy, rfl, hzN, hy, hcy⟩ := lit_val (l := [-1, 8]) hlt hz (by simpa using hz2')
        (try simp only [World.size_alloc] at hcy)
        (try clear z0 z0f z1 z1f z2 z2f x0 x0f x1 x1f x2 x2f)
        replace HB := hide (below_gr (unhide HB) hg (by omega))
        replace HZ := hide ((unhide HZ).kg hg (by omega))
        replace HX := hide ((unhide HX).kg hg (by omega))
        replace HP := hide ((unhide HP).kg hg (by omega))
        replace HRd := hide hr
        clear hr hg
        clear hlt hy
        have z0 := (unhide HZ).cell 0 rfl
        have z0f := (unhide HZ).frozen 0 rfl
        have z1 := (unhide HZ).cell 1 rfl
        have z1f := (unhide HZ).frozen 1 rfl
        have z2 := (unhide HZ).cell 2 rfl
        have z2f := (unhide HZ).frozen 2 rfl
        have x0 := (unhide HX).cell 0 rfl
        have x0f := (unhide HX).frozen 0 rfl
        have x1 := (unhide HX).cell 1 rfl
        have x1f := (unhide HX).frozen 1 rfl
        have x2 := (unhide HX).cell 2 rfl
        have x2f := (unhide HX).frozen 2 rfl
        go_wp2_with fail
        go_region
        all_goals
          go_wp2_with fail
          exact bodyPost_ret (v := .tuple #[.int .i64 rt, .int .i64 yy, rowV a c d, .slice (some ⟨b, off, none⟩) (0) (0)]) (by simp [results, Try.results60, go_sem, z0, z1, z2]) rfl ⟨_, _, _, _, _, [], _, _, _, rfl, rfl, by omega, by omega, unhide HFR, Row.nil _ _, (below_sc (below_sc (below_sc (unhide HB) (by dsimp only; omega)) (by dsimp only; omega)) (by dsimp only; omega)).drew⟩
      replace HP := hide ((unhide HP).drop 1)
      go_wp2_with fail
      refine (c155 r (0 + 270 + 1 + 3 + 1 + 1) 12 _ (by omega) (by omega) (unhide HRd)).mono ?_
      rintro e w9 ⟨b3, rfl, hr, hg⟩
      (try clear z0 z0f z1 z1f z2 z2f x0 x0f x1 x1f x2 x2f)
      replace HB := hide (below_gr (unhide HB) hg (by omega))
      replace HZ := hide ((unhide HZ).kg hg (by omega))
      replace HX := hide ((unhide HX).kg hg (by omega))
      replace HP := hide ((unhide HP).kg hg (by omega))
      replace HRd := hide hr
      clear hr hg
      have z0 := (unhide HZ).cell 0 rfl
      have z0f := (unhide HZ).frozen 0 rfl
      have z1 := (unhide HZ).cell 1 rfl
      have z1f := (unhide HZ).frozen 1 rfl
      have z2 := (unhide HZ).cell 2 rfl
      have z2f := (unhide HZ).frozen 2 rfl
      have x0 := (unhide HX).cell 0 rfl
      have x0f := (unhide HX).frozen 0 rfl
      have x1 := (unhide HX).cell 1 rfl
      have x1f := (unhide HX).frozen 1 rfl
      have x2 := (unhide HX).cell 2 rfl
      have x2f := (unhide HX).frozen 2 rfl
      cases b3
      case false =>
        go_wp2_with fail
        go_region
        all_goals
          go_wp2_with fail
          exact bodyPost_ret (v := .tuple #[.int .i64 rt, .int .i64 (tN : Int), rowV a c d, .slice (some ⟨b, off + 1, none⟩) (ps.length - 1) (cp - 1)]) (by simp [results, Try.results60, go_sem, z0, z1, z2]) rfl ⟨_, _, _, _, _, (ps.drop 1), _, _, _, rfl, by rw [List.length_drop], by omega, by omega, unhide HFR, (((((unhide HP).oth _ (by omega)).oth _ (by omega)).oth _ (by omega)).bel (below_drew _)).1, (below_sc (below_sc (below_sc (unhide HB) (by dsimp only; omega)) (by dsimp only; omega)) (by dsimp only; omega)).drew⟩
      go_wp2_with fail
      refine (pick_lit r (0 + 270 + 1 + 3 + 1 + 1 + 1) 2 _ _ (by omega) (by omega) (unhide HRd)).mono ?_
      rintro e w10 ⟨z, rfl, hz, hz2', hr, hg, hlt⟩
      obtain ⟨zN, yy, rfl, hzN, hy, hcy⟩ := lit_val (l := [-1, 8]) hlt hz (by simpa using hz2')
      (try simp only [World.size_alloc] at hcy)
      (try clear z0 z0f z1 z1f z2 z2f x0 x0f x1 x1f x2 x2f)
      replace HB := hide (below_gr (unhide HB) hg (by omega))
      replace HZ := hide ((unhide HZ).kg hg (by omega))
      replace HX := hide ((unhide HX).kg hg (by omega))
      replace HP := hide ((unhide HP).kg hg (by omega))
      replace HRd := hide hr
      clear hr hg
      clear hlt hy
      have z0 := (unhide HZ).cell 0 rfl
      have z0f := (unhide HZ).frozen 0 rfl
      have z1 := (unhide HZ).cell 1 rfl
      have z1f := (unhide HZ).frozen 1 rfl
      have z2 := (unhide HZ).cell 2 rfl
      have z2f := (unhide HZ).frozen 2 rfl
      have x0 := (unhide HX).cell 0 rfl
      have x0f := (unhide HX).frozen 0 rfl
      have x1 := (unhide HX).cell 1 rfl
      have x1f := (unhide HX).frozen 1 rfl
      have x2 := (unhide HX).cell 2 rfl
      have x2f := (unhide HX).frozen 2 rfl
      go_wp2_with fail
      go_region
      all_goals
        go_wp2_with fail
        exact bodyPost_ret (v := .tuple #[.int .i64 rt, .int .i64 yy, rowV a c d, .slice (some ⟨b, off + 1, none⟩) (ps.length - 1) (cp - 1)]) (by simp [results, Try.results60, go_sem, z0, z1, z2]) rfl ⟨_, _, _, _, _, (ps.drop 1), _, _, _, rfl, by rw [List.length_drop], by omega, by omega, unhide HFR, (((((unhide HP).oth _ (by omega)).oth _ (by omega)).oth _ (by omega)).bel (below_drew _)).1, (below_sc (below_sc (below_sc (unhide HB) (by dsimp only; omega)) (by dsimp only; omega)) (by dsimp only; omega)).drew⟩
    go_wp2_with fail
    refine (c156 r (0 + 270 + 1 + 3 + 1) 4 _ (by omega) (by omega) (unhide HRd)).mono ?_
    rintro e w8 ⟨rt2, rfl, rt2b, hr, hg⟩
    (try clear z0 z0f z1 z1f z2 z2f x0 x0f x1 x1f x2 x2f)
    replace HB := hide (below_gr (unhide HB) hg (by omega))
    replace HZ := hide ((unhide HZ).kg hg (by omega))
    replace HX := hide ((unhide HX).kg hg (by omega))
    replace HP := hide ((unhide HP).kg hg (by omega))
    replace HRd := hide hr
    clear hr hg
    have z0 := (unhide HZ).cell 0 rfl
    have z0f := (unhide HZ).frozen 0 rfl
    have z1 := (unhide HZ).cell 1 rfl
    have z1f := (unhide HZ).frozen 1 rfl
    have z2 := (unhide HZ).cell 2 rfl
    have z2f := (unhide HZ).frozen 2 rfl
    have x0 := (unhide HX).cell 0 rfl
    have x0f := (unhide HX).frozen 0 rfl
    have x1 := (unhide HX).cell 1 rfl
    have x1f := (unhide HX).frozen 1 rfl
    have x2 := (unhide HX).cell 2 rfl
    have x2f := (unhide HX).frozen 2 rfl
    go_wp2_with fail
    refine (c155 r (0 + 270 + 1 + 3 + 1 + 4) 8 _ (by omega) (by omega) (unhide HRd)).mono ?_
    rintro e w9 ⟨b2, rfl, hr, hg⟩
    (try clear z0 z0f z1 z1f z2 z2f x0 x0f x1 x1f x2 x2f)
    replace HB := hide (below_gr (unhide HB) hg (by omega))
    replace HZ := hide ((unhide HZ).kg hg (by omega))
    replace HX := hide ((unhide HX).kg hg (by omega))
    replace HP := hide ((unhide HP).kg hg (by omega))
    replace HRd := hide hr
    clear hr hg
    have z0 := (unhide HZ).cell 0 rfl
    have z0f := (unhide HZ).frozen 0 rfl
    have z1 := (unhide HZ).cell 1 rfl
    have z1f := (unhide HZ).frozen 1 rfl
    have z2 := (unhide HZ).cell 2 rfl
    have z2f := (unhide HZ).frozen 2 rfl
    have x0 := (unhide HX).cell 0 rfl
    have x0f := (unhide HX).frozen 0 rfl
    have x1 := (unhide HX).cell 1 rfl
    have x1f := (unhide HX).frozen 1 rfl
    have x2 := (unhide HX).cell 2 rfl
    have x2f := (unhide HX).frozen 2 rfl
    cases b2
    case false =>
      go_wp2_with fail
      refine (c155 r (0 + 270 + 1 + 3 + 1 + 4 + 1) 12 _ (by omega) (by omega) (unhide HRd)).mono ?_
      rintro e w10 ⟨b3, rfl, hr, hg⟩
      (try clear z0 z0f z1 z1f z2 z2f x0 x0f x1 x1f x2 x2f)
      replace HB := hide (below_gr (unhide HB) hg (by omega))
      replace HZ := hide ((unhide HZ).kg hg (by omega))
      replace HX := hide ((unhide HX).kg hg (by omega))
      replace HP := hide ((unhide HP).kg hg (by omega))
      replace HRd := hide hr
      clear hr hg
      have z0 := (unhide HZ).cell 0 rfl
      have z0f := (unhide HZ).frozen 0 rfl
      have z1 := (unhide HZ).cell 1 rfl
      have z1f := (unhide HZ).frozen 1 rfl
      have z2 := (unhide HZ).cell 2 rfl
      have z2f := (unhide HZ).frozen 2 rfl
      have x0 := (unhide HX).cell 0 rfl
      have x0f := (unhide HX).frozen 0 rfl
      have x1 := (unhide HX).cell 1 rfl
      have x1f := (unhide HX).frozen 1 rfl
      have x2 := (unhide HX).cell 2 rfl
      have x2f := (unhide HX).frozen 2 rfl
      cases b3
      case false =>
        go_wp2_with fail
        go_region
        all_goals
          go_wp2_with fail
          exact bodyPost_ret (v := .tuple #[.int .i64 rt2, .int .i64 (tN : Int), rowV a c d, .slice ap (ps.length) (cp)]) (by simp [results, Try.results60, go_sem, z0, z1, z2]) rfl ⟨_, _, _, _, _, ps, _, _, _, rfl, rfl, by omega, by omega, unhide HFR, (((((unhide HP).oth _ (by omega)).oth _ (by omega)).oth _ (by omega)).bel (below_drew _)).1, (below_sc (below_sc (below_sc (unhide HB) (by dsimp only; omega)) (by dsimp only; omega)) (by dsimp only; omega)).drew⟩
      go_wp2_with fail
      refine (pick_lit r (0 + 270 + 1 + 3 + 1 + 4 + 1 + 1) 2 _ _ (by omega) (by omega) (unhide HRd)).mono ?_
      rintro e w11 ⟨z, rfl, hz, hz2', hr, hg, hlt⟩
      obtain ⟨zN, yy, rfl, hzN, hy, hcy⟩ := lit_val (l := [-1, 8]) hlt hz (by simpa using hz2')
      (try simp only [World.size_alloc] at hcy)
      (try clear z0 z0f z1 z1f z2 z2f x0 x0f x1 x1f x2 x2f)
      replace HB := hide (below_gr (unhide HB) hg (by omega))
      replace HZ := hide ((unhide HZ).kg hg (by omega))
      replace HX := hide ((unhide HX).kg hg (by omega))
      replace HP := hide ((unhide HP).kg hg (by omega))
      replace HRd := hide hr
      clear hr hg
      clear hlt hy
      have z0 := (unhide HZ).cell 0 rfl
      have z0f := (unhide HZ).frozen 0 rfl
      have z1 := (unhide HZ).cell 1 rfl
      have z1f := (unhide HZ).frozen 1 rfl
      have z2 := (unhide HZ).cell 2 rfl
      have z2f := (unhide HZ).frozen 2 rfl
      have x0 := (unhide HX).cell 0 rfl
      have x0f := (unhide HX).frozen 0 rfl
      have x1 := (unhide HX).cell 1 rfl
      have x1f := (unhide HX).frozen 1 rfl
      have x2 := (unhide HX).cell 2 rfl
      have x2f := (unhide HX).frozen 2 rfl
      go_wp2_with fail
      go_region
      all_goals
        go_wp2_with fail
        exact bodyPost_ret (v := .tuple #[.int .i64 rt2, .int .i64 yy, rowV a c d, .slice ap (ps.length) (cp)]) (by simp [results, Try.results60, go_sem, z0, z1, z2]) rfl ⟨_, _, _, _, _, ps, _, _, _, rfl, rfl, by omega, by omega, unhide HFR, (((((unhide HP).oth _ (by omega)).oth _ (by omega)).oth _ (by omega)).bel (below_drew _)).1, (below_sc (below_sc (below_sc (unhide HB) (by dsimp only; omega)) (by dsimp only; omega)) (by dsimp only; omega)).drew⟩
    by_cases hz : ps = []
    case pos =>
      subst hz
      go_wp2_with fail
      refine (c155 r (0 + 270 + 1 + 3 + 1 + 4 + 1) 12 _ (by omega) (by omega) (unhide HRd)).mono ?_
      rintro e w10 ⟨b3, rfl, hr, hg⟩
      (try clear z0 z0f z1 z1f z2 z2f x0 x0f x1 x1f x2 x2f)
      replace HB := hide (below_gr (unhide HB) hg (by omega))
      replace HZ := hide ((unhide HZ).kg hg (by omega))
      replace HX := hide ((unhide HX).kg hg (by omega))
      replace HP := hide ((unhide HP).kg hg (by omega))
      replace HRd := hide hr
      clear hr hg
      have z0 := (unhide HZ).cell 0 rfl
      have z0f := (unhide HZ).frozen 0 rfl
      have z1 := (unhide HZ).cell 1 rfl
      have z1f := (unhide HZ).frozen 1 rfl
      have z2 := (unhide HZ).cell 2 rfl
      have z2f := (unhide HZ).frozen 2 rfl
      have x0 := (unhide HX).cell 0 rfl
      have x0f := (unhide HX).frozen 0 rfl
      have x1 := (unhide HX).cell 1 rfl
      have x1f := (unhide HX).frozen 1 rfl
      have x2 := (unhide HX).cell 2 rfl
      have x2f := (unhide HX).frozen 2 rfl
      cases b3
      case false =>
        go_wp2_with fail
        go_region
        all_goals
          go_wp2_with fail
          exact bodyPost_ret (v := .tuple #[.int .i64 rt2, .int .i64 (tN : Int), rowV a c d, .slice ap (0) (cp)]) (by simp [results, Try.results60, go_sem, z0, z1, z2]) rfl ⟨_, _, _, _, _, [], _, _, _, rfl, rfl, by omega, by omega, unhide HFR, Row.nil _ _, (below_sc (below_sc (below_sc (unhide HB) (by dsimp only; omega)) (by dsimp only; omega)) (by dsimp only; omega)).drew⟩
      go_wp2_with fail
      refine (pick_lit r (0 + 270 + 1 + 3 + 1 + 4 + 1 + 1) 2 _ _ (by omega) (by omega) (unhide HRd)).mono ?_
      rintro e w11 ⟨z, rfl, hz, hz2', hr, hg, hlt⟩
      obtain ⟨zN, yy, rfl, hzN, hy, hcy⟩ := lit_val (l := [-1, 8]) hlt hz (by simpa using hz2')
      (try simp only [World.size_alloc] at hcy)
      (try clear z0 z0f z1 z1f z2 z2f x0 x0f x1 x1f x2 x2f)
      replace HB := hide (below_gr (unhide HB) hg (by omega))
      replace HZ := hide ((unhide HZ).kg hg (by omega))
      replace HX := hide ((unhide HX).kg hg (by omega))
      replace HP := hide ((unhide HP).kg hg (by omega))
      replace HRd := hide hr
      clear hr hg
      clear hlt hy
      have z0 := (unhide HZ).cell 0 rfl
      have z0f := (unhide HZ).frozen 0 rfl
      have z1 := (unhide HZ).cell 1 rfl
      have z1f := (unhide HZ).frozen 1 rfl
      have z2 := (unhide HZ).cell 2 rfl
      have z2f := (unhide HZ).frozen 2 rfl
      have x0 := (unhide HX).cell 0 rfl
      have x0f := (unhide HX).frozen 0 rfl
      have x1 := (unhide HX).cell 1 rfl
      have x1f := (unhide HX).frozen 1 rfl
      have x2 := (unhide HX).cell 2 rfl
      have x2f := (unhide HX).frozen 2 rfl
      go_wp2_with fail
      go_region
      all_goals
        go_wp2_with fail
        exact bodyPost_ret (v := .tuple #[.int .i64 rt2, .int .i64 yy, rowV a c d, .slice ap (0) (cp)]) (by simp [results, Try.results60, go_sem, z0, z1, z2]) rfl ⟨_, _, _, _, _, [], _, _, _, rfl, rfl, by omega, by omega, unhide HFR, Row.nil _ _, (below_sc (below_sc (below_sc (unhide HB) (by dsimp only; omega)) (by dsimp only; omega)) (by dsimp only; omega)).drew⟩
    have hpos : 0 < ps.length := List.length_pos_iff.2 hz
    obtain ⟨b, off, rfl, -⟩ := (unhide HP).1.2 hz
    have hgt : (0 : Int) < (ps.length : Int) := by omega
    clear hz
    by_cases hc1 : cp = 1
    case pos =>
      subst hc1
      go_wp2_with fail
      refine (c155 r (0 + 270 + 1 + 3 + 1 + 4 + 1) 12 _ (by omega) (by omega) (unhide HRd)).mono ?_
      rintro e w10 ⟨b3, rfl, hr, hg⟩
      (try clear z0 z0f z1 z1f z2 z2f x0 x0f x1 x1f x2 x2f)
      replace HB := hide (below_gr (unhide HB) hg (by omega))
      replace HZ := hide ((unhide HZ).kg hg (by omega))
      replace HX := hide ((unhide HX).kg hg (by omega))
      replace HP := hide ((unhide HP).kg hg (by omega))
      replace HRd := hide hr
      clear hr hg
      have z0 := (unhide HZ).cell 0 rfl
      have z0f := (unhide HZ).frozen 0 rfl
      have z1 := (unhide HZ).cell 1 rfl
      have z1f := (unhide HZ).frozen 1 rfl
      have z2 := (unhide HZ).cell 2 rfl
      have z2f := (unhide HZ).frozen 2 rfl
      have x0 := (unhide HX).cell 0 rfl
      have x0f := (unhide HX).frozen 0 rfl
      have x1 := (unhide HX).cell 1 rfl
      have x1f := (unhide HX).frozen 1 rfl
      have x2 := (unhide HX).cell 2 rfl
      have x2f := (unhide HX).frozen 2 rfl
      cases b3
      case false =>
        go_wp2_with fail
        go_region
        all_goals
          go_wp2_with fail
          exact bodyPost_ret (v := .tuple #[.int .i64 rt2, .int .i64 (tN : Int), rowV a c d, .slice (some ⟨b, off, none⟩) (0) (0)]) (by simp [results, Try.results60, go_sem, z0, z1, z2]) rfl ⟨_, _, _, _, _, [], _, _, _, rfl, rfl, by omega, by omega, unhide HFR, Row.nil _ _, (below_sc (below_sc (below_sc (unhide HB) (by dsimp only; omega)) (by dsimp only; omega)) (by dsimp only; omega)).drew⟩
      go_wp2_with fail
      refine (pick_lit r (0 + 270 + 1 + 3 + 1 + 4 + 1 + 1) 2 _ _ (by omega) (by omega) (unhide HRd)).mono ?_
      rintro e w11 ⟨z, rfl, hz, hz2', hr, hg, hlt⟩
      obtain ⟨zN, yy, rfl, hzN, hy, hcy⟩ := lit_val (l := [-1, 8]) hlt hz (by simpa using hz2')
      (try simp only [World.size_alloc] at hcy)
      (try clear z0 z0f z1 z1f z2 z2f x0 x0f x1 x1f x2 x2f)
      replace HB := hide (below_gr (unhide HB) hg (by omega))
      replace HZ := hide ((unhide HZ).kg hg (by omega))
      replace HX := hide ((unhide HX).kg hg (by omega))
      replace HP := hide ((unhide HP).kg hg (by omega))
      replace HRd := hide hr
      clear hr hg
      clear hlt hy
      have z0 := (unhide HZ).cell 0 rfl
      have z0f := (unhide HZ).frozen 0 rfl
      have z1 := (unhide HZ).cell 1 rfl
      have z1f := (unhide HZ).frozen 1 rfl
      have z2 := (unhide HZ).cell 2 rfl
      have z2f := (unhide HZ).frozen 2 rfl
      have x0 := (unhide HX).cell 0 rfl
      have x0f := (unhide HX).frozen 0 rfl
      have x1 := (unhide HX).cell 1 rfl
      have x1f := (unhide HX).frozen 1 rfl
      have x2 := (unhide HX).cell 2 rfl
      have x2f := (unhide HX).frozen 2 rfl
      go_wp2_with fail
      go_region
      all_goals
        go_wp2_with fail
        exact bodyPost_ret (v := .tuple #[.int .i64 rt2, .int .i64 yy, rowV a c d, .slice (some ⟨b, off, none⟩) (0) (0)]) (by simp [results, Try.results60, go_sem, z0, z1, z2]) rfl ⟨_, _, _, _, _, [], _, _, _, rfl, rfl, by omega, by omega, unhide HFR, Row.nil _ _, (below_sc (below_sc (below_sc (unhide HB) (by dsimp only; omega)) (by dsimp only; omega)) (by dsimp only; omega)).drew⟩
    replace HP := hide ((unhide HP).drop 1)
    go_wp2_with fail
    refine (c155 r (0 + 270 + 1 + 3 + 1 + 4 + 1) 12 _ (by omega) (by omega) (unhide HRd)).mono ?_
    rintro e w10 ⟨b3, rfl, hr, hg⟩
    (try clear z0 z0f z1 z1f z2 z2f x0 x0f x1 x1f x2 x2f)
    replace HB := hide (below_gr (unhide HB) hg (by omega))
    replace HZ := hide ((unhide HZ).kg hg (by omega))
    replace HX := hide ((unhide HX).kg hg (by omega))
    replace HP := hide ((unhide HP).kg hg (by omega))
    replace HRd := hide hr
    clear hr hg
    have z0 := (unhide HZ).cell 0 rfl
    have z0f := (unhide HZ).frozen 0 rfl
    have z1 := (unhide HZ).cell 1 rfl
    have z1f := (unhide HZ).frozen 1 rfl
    have z2 := (unhide HZ).cell 2 rfl
    have z2f := (unhide HZ).frozen 2 rfl
    have x0 := (unhide HX).cell 0 rfl
    have x0f := (unhide HX).frozen 0 rfl
    have x1 := (unhide HX).cell 1 rfl
    have x1f := (unhide HX).frozen 1 rfl
    have x2 := (unhide HX).cell 2 rfl
    have x2f := (unhide HX).frozen 2 rfl
    cases b3
    case false =>
      go_wp2_with fail
      go_region
      all_goals
        go_wp2_with fail
        exact bodyPost_ret (v := .tuple #[.int .i64 rt2, .int .i64 (tN : Int), rowV a c d, .slice (some ⟨b, off + 1, none⟩) (ps.length - 1) (cp - 1)]) (by simp [results, Try.results60, go_sem, z0, z1, z2]) rfl ⟨_, _, _, _, _, (ps.drop 1), _, _, _, rfl, by rw [List.length_drop], by omega, by omega, unhide HFR, (((((unhide HP).oth _ (by omega)).oth _ (by omega)).oth _ (by omega)).bel (below_drew _)).1, (below_sc (below_sc (below_sc (unhide HB) (by dsimp only; omega)) (by dsimp only; omega)) (by dsimp only; omega)).drew⟩
    go_wp2_with fail
    refine (pick_lit r (0 + 270 + 1 + 3 + 1 + 4 + 1 + 1) 2 _ _ (by omega) (by omega) (unhide HRd)).mono ?_
    rintro e w11 ⟨z, rfl, hz, hz2', hr, hg, hlt⟩
    obtain ⟨zN, yy, rfl, hzN, hy, hcy⟩ := lit_val (l := [-1, 8]) hlt hz (by simpa using hz2')
    (try simp only [World.size_alloc] at hcy)
    (try clear z0 z0f z1 z1f z2 z2f x0 x0f x1 x1f x2 x2f)
    replace HB := hide (below_gr (unhide HB) hg (by omega))
    replace HZ := hide ((unhide HZ).kg hg (by omega))
    replace HX := hide ((unhide HX).kg hg (by omega))
    replace HP := hide ((unhide HP).kg hg (by omega))
    replace HRd := hide hr
    clear hr hg
    clear hlt hy
    have z0 := (unhide HZ).cell 0 rfl
    have z0f := (unhide HZ).frozen 0 rfl
    have z1 := (unhide HZ).cell 1 rfl
    have z1f := (unhide HZ).frozen 1 rfl
    have z2 := (unhide HZ).cell 2 rfl
    have z2f := (unhide HZ).frozen 2 rfl
    have x0 := (unhide HX).cell 0 rfl
    have x0f := (unhide HX).frozen 0 rfl
    have x1 := (unhide HX).cell 1 rfl
    have x1f := (unhide HX).frozen 1 rfl
    have x2 := (unhide HX).cell 2 rfl
    have x2f := (unhide HX).frozen 2 rfl
    go_wp2_with fail
    go_region
    all_goals
      go_wp2_with fail
      exact bodyPost_ret (v := .tuple #[.int .i64 rt2, .int .i64 yy, rowV a c d, .slice (some ⟨b, off + 1, none⟩) (ps.length - 1) (cp - 1)]) (by simp [results, Try.results60, go_sem, z0, z1, z2]) rfl ⟨_, _, _, _, _, (ps.drop 1), _, _, _, rfl, by rw [List.length_drop], by omega, by omega, unhide HFR, (((((unhide HP).oth _ (by omega)).oth _ (by omega)).oth _ (by omega)).bel (below_drew _)).1, (below_sc (below_sc (below_sc (unhide HB) (by dsimp only; omega)) (by dsimp only; omega)) (by dsimp only; omega)).drew⟩
  subst h8
  go_wp2_with fail
  refine (c144 r (0 + 270 + 1 + 3) 3 _ (by omega) (unhide HRd)).mono ?_
  rintro e w5 ⟨x, rfl, xa, xb, hr, hg⟩
  have xb := xb (by omega)
  (try clear z0 z0f z1 z1f z2 z2f x0 x0f x1 x1f x2 x2f)
  replace HB := hide (below_gr (unhide HB) hg (by omega))
  replace HZ := hide ((unhide HZ).kg hg (by omega))
  replace HW := hide ((unhide HW).kg hg (by omega))
  replace HX := hide ((unhide HX).kg hg (by omega))
  replace HRd := hide hr
  clear hr hg
  have z0 := (unhide HZ).cell 0 rfl
  have z0f := (unhide HZ).frozen 0 rfl
  have z1 := (unhide HZ).cell 1 rfl
  have z1f := (unhide HZ).frozen 1 rfl
  have z2 := (unhide HZ).cell 2 rfl
  have z2f := (unhide HZ).frozen 2 rfl
  have x0 := (unhide HX).cell 0 rfl
  have x0f := (unhide HX).frozen 0 rfl
  have x1 := (unhide HX).cell 1 rfl
  have x1f := (unhide HX).frozen 1 rfl
  have x2 := (unhide HX).cell 2 rfl
  have x2f := (unhide HX).frozen 2 rfl
  have hry : r + 1 ≤ w5.heap.size := (unhide HRd).lt
  by_cases h0 : x = 0
  case pos =>
    subst h0
    go_wp2_with fail
    refine (c54 rs (tN : Int) ars 8 crs _ hnrs (by omega) (unhide HW).1).mono ?_
    rintro e y1 ⟨v, rfl, ho, hb⟩
    obtain ⟨ap, cp, rfl, hcp, hrr, hbl⟩ := ho.row
    have hbz := fun a ha => (hbl a ha).1
    (try clear z0 z0f z1 z1f z2 z2f x0 x0f x1 x1f x2 x2f)
    replace HB := hide (below_tr (unhide HB) hb)
    replace HRd := hide ((unhide HRd).bel hb)
    replace HZ := hide ((unhide HZ).bel hb)
    replace HW := hide ((unhide HW).bel hb)
    replace HX := hide ((unhide HX).bel hb)
    clear hb
    have z0 := (unhide HZ).cell 0 rfl
    have z0f := (unhide HZ).frozen 0 rfl
    have z1 := (unhide HZ).cell 1 rfl
    have z1f := (unhide HZ).frozen 1 rfl
    have z2 := (unhide HZ).cell 2 rfl
    have z2f := (unhide HZ).frozen 2 rfl
    have x0 := (unhide HX).cell 0 rfl
    have x0f := (unhide HX).frozen 0 rfl
    have x1 := (unhide HX).cell 1 rfl
    have x1f := (unhide HX).frozen 1 rfl
    have x2 := (unhide HX).cell 2 rfl
    have x2f := (unhide HX).frozen 2 rfl
    have hpl := ownProof_len rs (tN : Int)
    generalize hps : ownProof rs (tN : Int) = ps at *
    have HP : Hid (RowA y1 (r + 1) ap ps) := ⟨hrr, fun a ha => by have h1 := hbz a ha; have h2 := hry; omega⟩
    clear hps ho hrr hbl hbz hry
    go_wp2_with fail
    refine (c55 rs ars 8 crs _ hnrs (by omega) (unhide HW).1).mono ?_
    rintro e y2 ⟨rfl, hb⟩
    (try clear z0 z0f z1 z1f z2 z2f x0 x0f x1 x1f x2 x2f)
    replace HB := hide (below_tr (unhide HB) hb)
    replace HRd := hide ((unhide HRd).bel hb)
    replace HZ := hide ((unhide HZ).bel hb)
    replace HW := hide ((unhide HW).bel hb)
    replace HX := hide ((unhide HX).bel hb)
    replace HP := hide ((unhide HP).bel hb)
    clear hb
    have z0 := (unhide HZ).cell 0 rfl
    have z0f := (unhide HZ).frozen 0 rfl
    have z1 := (unhide HZ).cell 1 rfl
    have z1f := (unhide HZ).frozen 1 rfl
    have z2 := (unhide HZ).cell 2 rfl
    have z2f := (unhide HZ).frozen 2 rfl
    have x0 := (unhide HX).cell 0 rfl
    have x0f := (unhide HX).frozen 0 rfl
    have x1 := (unhide HX).cell 1 rfl
    have x1f := (unhide HX).frozen 1 rfl
    have x2 := (unhide HX).cell 2 rfl
    have x2f := (unhide HX).frozen 2 rfl
    generalize ownRoot rs = rt at *
    (try clear z0 z0f z1 z1f z2 z2f x0 x0f x1 x1f x2 x2f)
    clear HW
    have z0 := (unhide HZ).cell 0 rfl
    have z0f := (unhide HZ).frozen 0 rfl
    have z1 := (unhide HZ).cell 1 rfl
    have z1f := (unhide HZ).frozen 1 rfl
    have z2 := (unhide HZ).cell 2 rfl
    have z2f := (unhide HZ).frozen 2 rfl
    have x0 := (unhide HX).cell 0 rfl
    have x0f := (unhide HX).frozen 0 rfl
    have x1 := (unhide HX).cell 1 rfl
    have x1f := (unhide HX).frozen 1 rfl
    have x2 := (unhide HX).cell 2 rfl
    have x2f := (unhide HX).frozen 2 rfl
    go_wp2_with fail
    refine (c155 r (0 + 270 + 1 + 3 + 1) 8 _ (by omega) (by omega) (unhide HRd)).mono ?_
    rintro e w8 ⟨b1, rfl, hr, hg⟩
    (try clear z0 z0f z1 z1f z2 z2f x0 x0f x1 x1f x2 x2f)
    replace HB := hide (below_gr (unhide HB) hg (by omega))
    replace HZ := hide ((unhide HZ).kg hg (by omega))
    replace HX := hide ((unhide HX).kg hg (by omega))
    replace HP := hide ((unhide HP).kg hg (by omega))
    replace HRd := hide hr
    clear hr hg
    have z0 := (unhide HZ).cell 0 rfl
    have z0f := (unhide HZ).frozen 0 rfl
    have z1 := (unhide HZ).cell 1 rfl
    have z1f := (unhide HZ).frozen 1 rfl
    have z2 := (unhide HZ).cell 2 rfl
    have z2f := (unhide HZ).frozen 2 rfl
    have x0 := (unhide HX).cell 0 rfl
    have x0f := (unhide HX).frozen 0 rfl
    have x1 := (unhide HX).cell 1 rfl
    have x1f := (unhide HX).frozen 1 rfl
    have x2 := (unhide HX).cell 2 rfl
    have x2f := (unhide HX).frozen 2 rfl
    cases b1
    case false =>
      go_wp2_with fail
      refine (c155 r (0 + 270 + 1 + 3 + 1 + 1) 8 _ (by omega) (by omega) (unhide HRd)).mono ?_
      rintro e w9 ⟨b2, rfl, hr, hg⟩
      (try clear z0 z0f z1 z1f z2 z2f x0 x0f x1 x1f x2 x2f)
      replace HB := hide (below_gr (unhide HB) hg (by omega))
      replace HZ := hide ((unhide HZ).kg hg (by omega))
      replace HX := hide ((unhide HX).kg hg (by omega))
      replace HP := hide ((unhide HP).kg hg (by omega))
      replace HRd := hide hr
      clear hr hg
      have z0 := (unhide HZ).cell 0 rfl
      have z0f := (unhide HZ).frozen 0 rfl
      have z1 := (unhide HZ).cell 1 rfl
      have z1f := (unhide HZ).frozen 1 rfl
      have z2 := (unhide HZ).cell 2 rfl
      have z2f := (unhide HZ).frozen 2 rfl
      have x0 := (unhide HX).cell 0 rfl
      have x0f := (unhide HX).frozen 0 rfl
      have x1 := (unhide HX).cell 1 rfl
      have x1f := (unhide HX).frozen 1 rfl
      have x2 := (unhide HX).cell 2 rfl
      have x2f := (unhide HX).frozen 2 rfl
      cases b2
      case false =>
        go_wp2_with fail
        refine (c155 r (0 + 270 + 1 + 3 + 1 + 1 + 1) 12 _ (by omega) (by omega) (unhide HRd)).mono ?_
        rintro e w10 ⟨b3, rfl, hr, hg⟩
        (try clear z0 z0f z1 z1f z2 z2f x0 x0f x1 x1f x2 x2f)
        replace HB := hide (below_gr (unhide HB) hg (by omega))
        replace HZ := hide ((unhide HZ).kg hg (by omega))
        replace HX := hide ((unhide HX).kg hg (by omega))
        replace HP := hide ((unhide HP).kg hg (by omega))
        replace HRd := hide hr
        clear hr hg
        have z0 := (unhide HZ).cell 0 rfl
        have z0f := (unhide HZ).frozen 0 rfl
        have z1 := (unhide HZ).cell 1 rfl
        have z1f := (unhide HZ).frozen 1 rfl
        have z2 := (unhide HZ).cell 2 rfl
        have z2f := (unhide HZ).frozen 2 rfl
        have x0 := (unhide HX).cell 0 rfl
        have x0f := (unhide HX).frozen 0 rfl
        have x1 := (unhide HX).cell 1 rfl
        have x1f := (unhide HX).frozen 1 rfl
        have x2 := (unhide HX).cell 2 rfl
        have x2f := (unhide HX).frozen 2 rfl
        cases b3
        case false =>
          go_wp2_with fail
          go_region
          all_goals
            go_wp2_with fail
            exact bodyPost_ret (v := .tuple #[.int .i64 rt, .int .i64 (tN : Int), rowV a c d, .slice ap (ps.length) (cp)]) (by simp [results, Try.results60, go_sem, z0, z1, z2]) rfl ⟨_, _, _, _, _, ps, _, _, _, rfl, rfl, by omega, by omega, unhide HFR, (((((unhide HP).oth _ (by omega)).oth _ (by omega)).oth _ (by omega)).bel (below_drew _)).1, (below_sc (below_sc (below_sc (unhide HB) (by dsimp only; omega)) (by dsimp only; omega)) (by dsimp only; omega)).drew⟩
        go_wp2_with fail
        refine (pick_lit r (0 + 270 + 1 + 3 + 1 + 1 + 1 + 1) 2 _ _ (by omega) (by omega) (unhide HRd)).mono ?_
        rintro e w11 ⟨z, rfl, hz, hz2', hr, hg, hlt⟩
        obtain ⟨zN, yy, rfl, hzN, hy, hcy⟩ := lit_val (l := [-1, 8]) hlt hz (by simpa using hz2')
        (try simp only [World.size_alloc] at hcy)
        (try clear z0 z0f z1 z1f z2 z2f x0 x0f x1 x1f x2 x2f)
        replace HB := hide (below_gr (unhide HB) hg (by omega))
        replace HZ := hide ((unhide HZ).kg hg (by omega))
        replace HX := hide ((unhide HX).kg hg (by omega))
        replace HP := hide ((unhide HP).kg hg (by omega))
        replace HRd := hide hr
        clear hr hg
        clear hlt hy
        have z0 := (unhide HZ).cell 0 rfl
        have z0f := (unhide HZ).frozen 0 rfl
        have z1 := (unhide HZ).cell 1 rfl
        have z1f := (unhide HZ).frozen 1 rfl
        have z2 := (unhide HZ).cell 2 rfl
        have z2f := (unhide HZ).frozen 2 rfl
        have x0 := (unhide HX).cell 0 rfl
        have x0f := (unhide HX).frozen 0 rfl
        have x1 := (unhide HX).cell 1 rfl
        have x1f := (unhide HX).frozen 1 rfl
        have x2 := (unhide HX).cell 2 rfl
        have x2f := (unhide HX).frozen 2 rfl
        go_wp2_with fail
        go_region
        all_goals
          go_wp2_with fail
          exact bodyPost_ret (v := .tuple #[.int .i64 rt, .int .i64 yy, rowV a c d, .slice ap (ps.length) (cp)]) (by simp [results, Try.results60, go_sem, z0, z1, z2]) rfl ⟨_, _, _, _, _, ps, _, _, _, rfl, rfl, by omega, by omega, unhide HFR, (((((unhide HP).oth _ (by omega)).oth _ (by omega)).oth _ (by omega)).bel (below_drew _)).1, (below_sc (below_sc (below_sc (unhide HB) (by dsimp only; omega)) (by dsimp only; omega)) (by dsimp only; omega)).drew⟩
      by_cases hz : ps = []
      case pos =>
        subst hz
        go_wp2_with fail
        refine (c155 r (0 + 270 + 1 + 3 + 1 + 1 + 1) 12 _ (by omega) (by omega) (unhide HRd)).mono ?_
        rintro e w10 ⟨b3, rfl, hr, hg⟩
        (try clear z0 z0f z1 z1f z2 z2f x0 x0f x1 x1f x2 x2f)
        replace HB := hide (below_gr (unhide HB) hg (by omega))
        replace HZ := hide ((unhide HZ).kg hg (by omega))
        replace HX := hide ((unhide HX).kg hg (by omega))
        replace HP := hide ((unhide HP).kg hg (by omega))
        replace HRd := hide hr
        clear hr hg
        have z0 := (unhide HZ).cell 0 rfl
        have z0f := (unhide HZ).frozen 0 rfl
        have z1 := (unhide HZ).cell 1 rfl
        have z1f := (unhide HZ).frozen 1 rfl
        have z2 := (unhide HZ).cell 2 rfl
        have z2f := (unhide HZ).frozen 2 rfl
        have x0 := (unhide HX).cell 0 rfl
        have x0f := (unhide HX).frozen 0 rfl
        have x1 := (unhide HX).cell 1 rfl
        have x1f := (unhide HX).frozen 1 rfl
        have x2 := (unhide HX).cell 2 rfl
        have x2f := (unhide HX).frozen 2 rfl
        cases b3
        case false =>
          go_wp2_with fail
          go_region
          all_goals
            go_wp2_with fail
            exact bodyPost_ret (v := .tuple #[.int .i64 rt, .int .i64 (tN : Int), rowV a c d, .slice ap (0) (cp)]) (by simp [results, Try.results60, go_sem, z0, z1, z2]) rfl ⟨_, _, _, _, _, [], _, _, _, rfl, rfl, by omega, by omega, unhide HFR, Row.nil _ _, (below_sc (below_sc (below_sc (unhide HB) (by dsimp only; omega)) (by dsimp only; omega)) (by dsimp only; omega)).drew⟩
        go_wp2_with fail
        refine (pick_lit r (0 + 270 + 1 + 3 + 1 + 1 + 1 + 1) 2 _ _ (by omega) (by omega) (unhide HRd)).mono ?_
        rintro e w11 ⟨z, rfl, hz, hz2', hr, hg, hlt⟩
        obtain ⟨zN, yy, rfl, hzN, hy, hcy⟩ := lit_val (l := [-1, 8]) hlt hz (by simpa using hz2')
        (try simp only [World.size_alloc] at hcy)
        (try clear z0 z0f z1 z1f z2 z2f x0 x0f x1 x1f x2 x2f)
        replace HB := hide (below_gr (unhide HB) hg (by omega))
        replace HZ := hide ((unhide HZ).kg hg (by omega))
        replace HX := hide ((unhide HX).kg hg (by omega))
        replace HP := hide ((unhide HP).kg hg (by omega))
        replace HRd := hide hr
        clear hr hg
        clear hlt hy
        have z0 := (unhide HZ).cell 0 rfl
        have z0f := (unhide HZ).frozen 0 rfl
        have z1 := (unhide HZ).cell 1 rfl
        have z1f := (unhide HZ).frozen 1 rfl
        have z2 := (unhide HZ).cell 2 rfl
        have z2f := (unhide HZ).frozen 2 rfl
        have x0 := (unhide HX).cell 0 rfl
        have x0f := (unhide HX).frozen 0 rfl
        have x1 := (unhide HX).cell 1 rfl
        have x1f := (unhide HX).frozen 1 rfl
        have x2 := (unhide HX).cell 2 rfl
        have x2f := (unhide HX).frozen 2 rfl
        go_wp2_with fail
        go_region
        all_goals
          go_wp2_with fail
          exact bodyPost_ret (v := .tuple #[.int .i64 rt, .int .i64 yy, rowV a c d, .slice ap (0) (cp)]) (by simp [results, Try.results60, go_sem, z0, z1, z2]) rfl ⟨_, _, _, _, _, [], _, _, _, rfl, rfl, by omega, by omega, unhide HFR, Row.nil _ _, (below_sc (below_sc (below_sc (unhide HB) (by dsimp only; omega)) (by dsimp only; omega)) (by dsimp only; omega)).drew⟩
      have hpos : 0 < ps.length := List.length_pos_iff.2 hz
      obtain ⟨b, off, rfl, -⟩ := (unhide HP).1.2 hz
      have hgt : (0 : Int) < (ps.length : Int) := by omega
      clear hz
      by_cases hc1 : cp = 1
      case pos =>
        subst hc1
        go_wp2_with fail
        refine (c155 r (0 + 270 + 1 + 3 + 1 + 1 + 1) 12 _ (by omega) (by omega) (unhide HRd)).mono ?_
        rintro e w10 ⟨b3, rfl, hr, hg⟩
        (try clear z0 z0f z1 z1f z2 z2f x0 x0f x1 x1f x2 x2f)
        replace HB := hide (below_gr (unhide HB) hg (by omega))
        replace HZ := hide ((unhide HZ).kg hg (by omega))
        replace HX := hide ((unhide HX).kg hg (by omega))
        replace HP := hide ((unhide HP).kg hg (by omega))
        replace HRd := hide hr
        clear hr hg
        have z0 := (unhide HZ).cell 0 rfl
        have z0f := (unhide HZ).frozen 0 rfl
        have z1 := (unhide HZ).cell 1 rfl
        have z1f := (unhide HZ).frozen 1 rfl
        have z2 := (unhide HZ).cell 2 rfl
        have z2f := (unhide HZ).frozen 2 rfl
        have x0 := (unhide HX).cell 0 rfl
        have x0f := (unhide HX).frozen 0 rfl
        have x1 := (unhide HX).cell 1 rfl
        have x1f := (unhide HX).frozen 1 rfl
        have x2 := (unhide HX).cell 2 rfl
        have x2f := (unhide HX).frozen 2 rfl
        cases b3
        case false =>
          go_wp2_with fail
          go_region
          all_goals
            go_wp2_with fail
            exact bodyPost_ret (v := .tuple #[.int .i64 rt, .int .i64 (tN : Int), rowV a c d, .slice (some ⟨b, off, none⟩) (0) (0)]) (by simp [results, Try.results60, go_sem, z0, z1, z2]) rfl ⟨_, _, _, _, _, [], _, _, _, rfl, rfl, by omega, by omega, unhide HFR, Row.nil _ _, (below_sc (below_sc (below_sc (unhide HB) (by dsimp only; omega)) (by dsimp only; omega)) (by dsimp only; omega)).drew⟩
        go_wp2_with fail
        refine (pick_lit r (0 + 270 + 1 + 3 + 1 + 1 + 1 + 1) 2 _ _ (by omega) (by omega) (unhide HRd)).mono ?_
        rintro e w11 ⟨z, rfl, hz, hz2', hr, hg, hlt⟩
        obtain ⟨zN, yy, rfl, hzN, hy, hcy⟩ := lit_val (l := [-1, 8]) hlt hz (by simpa using hz2')
        (try simp only [World.size_alloc] at hcy)
        (try clear z0 z0f z1 z1f z2 z2f x0 x0f x1 x1f x2 x2f)
        replace HB := hide (below_gr (unhide HB) hg (by omega))
        replace HZ := hide ((unhide HZ).kg hg (by omega))
        replace HX := hide ((unhide HX).kg hg (by omega))
        replace HP := hide ((unhide HP).kg hg (by omega))
        replace HRd := hide hr
        clear hr hg
        clear hlt hy
        have z0 := (unhide HZ).cell 0 rfl
        have z0f := (unhide HZ).frozen 0 rfl
        have z1 := (unhide HZ).cell 1 rfl
        have z1f := (unhide HZ).frozen 1 rfl
        have z2 := (unhide HZ).cell 2 rfl
        have z2f := (unhide HZ).frozen 2 rfl
        have x0 := (unhide HX).cell 0 rfl
        have x0f := (unhide HX).frozen 0 rfl
        have x1 := (unhide HX).cell 1 rfl
        have x1f := (unhide HX).frozen 1 rfl
        have x2 := (unhide HX).cell 2 rfl
        have x2f := (unhide HX).frozen 2 rfl
        go_wp2_with fail
        go_region
        all_goals
          go_wp2_with fail
          exact bodyPost_ret (v := .tuple #[.int .i64 rt, .int .i64 yy, rowV a c d, .slice (some ⟨b, off, none⟩) (0) (0)]) (by simp [results, Try.results60, go_sem, z0, z1, z2]) rfl ⟨_, _, _, _, _, [], _, _, _, rfl, rfl, by omega, by omega, unhide HFR, Row.nil _ _, (below_sc (below_sc (below_sc (unhide HB) (by dsimp only; omega)) (by dsimp only; omega)) (by dsimp only; omega)).drew⟩
      replace HP := hide ((unhide HP).drop 1)
      go_wp2_with fail
      refine (c155 r (0 + 270 + 1 + 3 + 1 + 1 + 1) 12 _ (by omega) (by omega) (unhide HRd)).mono ?_
      rintro e w10 ⟨b3, rfl, hr, hg⟩
      (try clear z0 z0f z1 z1f z2 z2f x0 x0f x1 x1f x2 x2f)
      replace HB := hide (below_gr (unhide HB) hg (by omega))
      replace HZ := hide ((unhide HZ).kg hg (by omega))
      replace HX := hide ((unhide HX).kg hg (by omega))
      replace HP := hide ((unhide HP).kg hg (by omega))
      replace HRd := hide hr
      clear hr hg
      have z0 := (unhide HZ).cell 0 rfl
      have z0f := (unhide HZ).frozen 0 rfl
      have z1 := (unhide HZ).cell 1 rfl
      have z1f := (unhide HZ).frozen 1 rfl
      have z2 := (unhide HZ).cell 2 rfl
      have z2f := (unhide HZ).frozen 2 rfl
      have x0 := (unhide HX).cell 0 rfl
      have x0f := (unhide HX).frozen 0 rfl
      have x1 := (unhide HX).cell 1 rfl
      have x1f := (unhide HX).frozen 1 rfl
      have x2 := (unhide HX).cell 2 rfl
      have x2f := (unhide HX).frozen 2 rfl
      cases b3
      case false =>
        go_wp2_with fail
        go_region
        all_goals
          go_wp2_with fail
          exact bodyPost_ret (v := .tuple #[.int .i64 rt, .int .i64 (tN : Int), rowV a c d, .slice (some ⟨b, off + 1, none⟩) (ps.length - 1) (cp - 1)]) (by simp [results, Try.results60, go_sem, z0, z1, z2]) rfl ⟨_, _, _, _, _, (ps.drop 1), _, _, _, rfl, by rw [List.length_drop], by omega, by omega, unhide HFR, (((((unhide HP).oth _ (by omega)).oth _ (by omega)).oth _ (by omega)).bel (below_drew _)).1, (below_sc (below_sc (below_sc (unhide HB) (by dsimp only; omega)) (by dsimp only; omega)) (by dsimp only; omega)).drew⟩
      go_wp2_with fail
      refine (pick_lit r (0 + 270 + 1 + 3 + 1 + 1 + 1 + 1) 2 _ _ (by omega) (by omega) (unhide HRd)).mono ?_
      rintro e w11 ⟨z, rfl, hz, hz2', hr, hg, hlt⟩
      obtain ⟨zN, yy, rfl, hzN, hy, hcy⟩ := lit_val (l := [-1, 8]) hlt hz (by simpa using hz2')
      (try simp only [World.size_alloc] at hcy)
      (try clear z0 z0f z1 z1f z2 z2f x0 x0f x1 x1f x2 x2f)
      replace HB := hide (below_gr (unhide HB) hg (by omega))
      replace HZ := hide ((unhide HZ).kg hg (by omega))
      replace HX := hide ((unhide HX).kg hg (by omega))
      replace HP := hide ((unhide HP).kg hg (by omega))
      replace HRd := hide hr
      clear hr hg
      clear hlt hy
      have z0 := (unhide HZ).cell 0 rfl
      have z0f := (unhide HZ).frozen 0 rfl
      have z1 := (unhide HZ).cell 1 rfl
      have z1f := (unhide HZ).frozen 1 rfl
      have z2 := (unhide HZ).cell 2 rfl
      have z2f := (unhide HZ).frozen 2 rfl
      have x0 := (unhide HX).cell 0 rfl
      have x0f := (unhide HX).frozen 0 rfl
      have x1 := (unhide HX).cell 1 rfl
      have x1f := (unhide HX).frozen 1 rfl
      have x2 := (unhide HX).cell 2 rfl
      have x2f := (unhide HX).frozen 2 rfl
      go_wp2_with fail
      go_region
      all_goals
        go_wp2_with fail
        exact bodyPost_ret (v := .tuple #[.int .i64 rt, .int .i64 yy, rowV a c d, .slice (some ⟨b, off + 1, none⟩) (ps.length - 1) (cp - 1)]) (by simp [results, Try.results60, go_sem, z0, z1, z2]) rfl ⟨_, _, _, _, _, (ps.drop 1), _, _, _, rfl, by rw [List.length_drop], by omega, by omega, unhide HFR, (((((unhide HP).oth _ (by omega)).oth _ (by omega)).oth _ (by omega)).bel (below_drew _)).1, (below_sc (below_sc (below_sc (unhide HB) (by dsimp only; omega)) (by dsimp only; omega)) (by dsimp only; omega)).drew⟩
    go_wp2_with fail
    refine (c156 r (0 + 270 + 1 + 3 + 1 + 1) 4 _ (by omega) (by omega) (unhide HRd)).mono ?_
    rintro e w9 ⟨rt2, rfl, rt2b, hr, hg⟩
    (try clear z0 z0f z1 z1f z2 z2f x0 x0f x1 x1f x2 x2f)
    replace HB := hide (below_gr (unhide HB) hg (by omega))
    replace HZ := hide ((unhide HZ).kg hg (by omega))
    replace HX := hide ((unhide HX).kg hg (by omega))
    replace HP := hide ((unhide HP).kg hg (by omega))
    replace HRd := hide hr
    clear hr hg
    have z0 := (unhide HZ).cell 0 rfl
    have z0f := (unhide HZ).frozen 0 rfl
    have z1 := (unhide HZ).cell 1 rfl
    have z1f := (unhide HZ).frozen 1 rfl
    have z2 := (unhide HZ).cell 2 rfl
    have z2f := (unhide HZ).frozen 2 rfl
    have x0 := (unhide HX).cell 0 rfl
    have x0f := (unhide HX).frozen 0 rfl
    have x1 := (unhide HX).cell 1 rfl
    have x1f := (unhide HX).frozen 1 rfl
    have x2 := (unhide HX).cell 2 rfl
    have x2f := (unhide HX).frozen 2 rfl
    go_wp2_with fail
    refine (c155 r (0 + 270 + 1 + 3 + 1 + 1 + 4) 8 _ (by omega) (by omega) (unhide HRd)).mono ?_
    rintro e w10 ⟨b2, rfl, hr, hg⟩
    (try clear z0 z0f z1 z1f z2 z2f x0 x0f x1 x1f x2 x2f)
    replace HB := hide (below_gr (unhide HB) hg (by omega))
    replace HZ := hide ((unhide HZ).kg hg (by omega))
    replace HX := hide ((unhide HX).kg hg (by omega))
    replace HP := hide ((unhide HP).kg hg (by omega))
    replace HRd := hide hr
    clear hr hg
    have z0 := (unhide HZ).cell 0 rfl
    have z0f := (unhide HZ).frozen 0 rfl
    have z1 := (unhide HZ).cell 1 rfl
    have z1f := (unhide HZ).frozen 1 rfl
    have z2 := (unhide HZ).cell 2 rfl
    have z2f := (unhide HZ).frozen 2 rfl
    have x0 := (unhide HX).cell 0 rfl
    have x0f := (unhide HX).frozen 0 rfl
    have x1 := (unhide HX).cell 1 rfl
    have x1f := (unhide HX).frozen 1 rfl
    have x2 := (unhide HX).cell 2 rfl
    have x2f := (unhide HX).frozen 2 rfl
    cases b2
    case false =>
      go_wp2_with fail
      refine (c155 r (0 + 270 + 1 + 3 + 1 + 1 + 4 + 1) 12 _ (by omega) (by omega) (unhide HRd)).mono ?_
      rintro e w11 ⟨b3, rfl, hr, hg⟩
      (try clear z0 z0f z1 z1f z2 z2f x0 x0f x1 x1f x2 x2f)
      replace HB := hide (below_gr (unhide HB) hg (by omega))
      replace HZ := hide ((unhide HZ).kg hg (by omega))
      replace HX := hide ((unhide HX).kg hg (by omega))
      replace HP := hide ((unhide HP).kg hg (by omega))
      replace HRd := hide hr
      clear hr hg
      have z0 := (unhide HZ).cell 0 rfl
      have z0f := (unhide HZ).frozen 0 rfl
      have z1 := (unhide HZ).cell 1 rfl
      have z1f := (unhide HZ).frozen 1 rfl
      have z2 := (unhide HZ).cell 2 rfl
      have z2f := (unhide HZ).frozen 2 rfl
      have x0 := (unhide HX).cell 0 rfl
      have x0f := (unhide HX).frozen 0 rfl
      have x1 := (unhide HX).cell 1 rfl
      have x1f := (unhide HX).frozen 1 rfl
      have x2 := (unhide HX).cell 2 rfl
      have x2f := (unhide HX).frozen 2 rfl
      cases b3
      case false =>
        go_wp2_with fail
        go_region
        all_goals
          go_wp2_with fail
          exact bodyPost_ret (v := .tuple #[.int .i64 rt2, .int .i64 (tN : Int), rowV a c d, .slice ap (ps.length) (cp)]) (by simp [results, Try.results60, go_sem, z0, z1, z2]) rfl ⟨_, _, _, _, _, ps, _, _, _, rfl, rfl, by omega, by omega, unhide HFR, (((((unhide HP).oth _ (by omega)).oth _ (by omega)).oth _ (by omega)).bel (below_drew _)).1, (below_sc (below_sc (below_sc (unhide HB) (by dsimp only; omega)) (by dsimp only; omega)) (by dsimp only; omega)).drew⟩
      go_wp2_with fail
      refine (pick_lit r (0 + 270 + 1 + 3 + 1 + 1 + 4 + 1 + 1) 2 _ _ (by omega) (by omega) (unhide HRd)).mono ?_
      rintro e w12 ⟨z, rfl, hz, hz2', hr, hg, hlt⟩
      obtain ⟨zN, yy, rfl, hzN, hy, hcy⟩ := lit_val (l := [-1, 8]) hlt hz (by simpa using hz2')
      (try simp only [World.size_alloc] at hcy)
      (try clear z0 z0f z1 z1f z2 z2f x0 x0f x1 x1f x2 x2f)
      replace HB := hide (below_gr (unhide HB) hg (by omega))
      replace HZ := hide ((unhide HZ).kg hg (by omega))
      replace HX := hide ((unhide HX).kg hg (by omega))
      replace HP := hide ((unhide HP).kg hg (by omega))
      replace HRd := hide hr
      clear hr hg
      clear hlt hy
      have z0 := (unhide HZ).cell 0 rfl
      have z0f := (unhide HZ).frozen 0 rfl
      have z1 := (unhide HZ).cell 1 rfl
      have z1f := (unhide HZ).frozen 1 rfl
      have z2 := (unhide HZ).cell 2 rfl
      have z2f := (unhide HZ).frozen 2 rfl
      have x0 := (unhide HX).cell 0 rfl
      have x0f := (unhide HX).frozen 0 rfl
      have x1 := (unhide HX).cell 1 rfl
      have x1f := (unhide HX).frozen 1 rfl
      have x2 := (unhide HX).cell 2 rfl
      have x2f := (unhide HX).frozen 2 rfl
      go_wp2_with fail
      go_region
      all_goals
        go_wp2_with fail
        exact bodyPost_ret (v := .tuple #[.int .i64 rt2, .int .i64 yy, rowV a c d, .slice ap (ps.length) (cp)]) (by simp [results, Try.results60, go_sem, z0, z1, z2]) rfl ⟨_, _, _, _, _, ps, _, _, _, rfl, rfl, by omega, by omega, unhide HFR, (((((unhide HP).oth _ (by omega)).oth _ (by omega)).oth _ (by omega)).bel (below_drew _)).1, (below_sc (below_sc (below_sc (unhide HB) (by dsimp only; omega)) (by dsimp only; omega)) (by dsimp only; omega)).drew⟩
    by_cases hz : ps = []
    case pos =>
      subst hz
      go_wp2_with fail
      refine (c155 r (0 + 270 + 1 + 3 + 1 + 1 + 4 + 1) 12 _ (by omega) (by omega) (unhide HRd)).mono ?_
      rintro e w11 ⟨b3, rfl, hr, hg⟩
      (try clear z0 z0f z1 z1f z2 z2f x0 x0f x1 x1f x2 x2f)
      replace HB := hide (below_gr (unhide HB) hg (by omega))
      replace HZ := hide ((unhide HZ).kg hg (by omega))
      replace HX := hide ((unhide HX).kg hg (by omega))
      replace HP := hide ((unhide HP).kg hg (by omega))
      replace HRd := hide hr
      clear hr hg
      have z0 := (unhide HZ).cell 0 rfl
      have z0f := (unhide HZ).frozen 0 rfl
      have z1 := (unhide HZ).cell 1 rfl
      have z1f := (unhide HZ).frozen 1 rfl
      have z2 := (unhide HZ).cell 2 rfl
      have z2f := (unhide HZ).frozen 2 rfl
      have x0 := (unhide HX).cell 0 rfl
      have x0f := (unhide HX).frozen 0 rfl
      have x1 := (unhide HX).cell 1 rfl
      have x1f := (unhide HX).frozen 1 rfl
      have x2 := (unhide HX).cell 2 rfl
      have x2f := (unhide HX).frozen 2 rfl
      cases b3
      case false =>
        go_wp2_with fail
        go_region
        all_goals
          go_wp2_with fail
          exact bodyPost_ret (v := .tuple #[.int .i64 rt2, .int .i64 (tN : Int), rowV a c d, .slice ap (0) (cp)]) (by simp [results, Try.results60, go_sem, z0, z1, z2]) rfl ⟨_, _, _, _, _, [], _, _, _, rfl, rfl, by omega, by omega, unhide HFR, Row.nil _ _, (below_sc (below_sc (below_sc (unhide HB) (by dsimp only; omega)) (by dsimp only; omega)) (by dsimp only; omega)).drew⟩
      go_wp2_with fail
      refine (pick_lit r (0 + 270 + 1 + 3 + 1 + 1 + 4 + 1 + 1) 2 _ _ (by omega) (by omega) (unhide HRd)).mono ?_
      rintro e w12 ⟨z, rfl, hz, hz2', hr, hg, hlt⟩
      obtain ⟨zN, yy, rfl, hzN, hy, hcy⟩ := lit_val (l := [-1, 8]) hlt hz (by simpa using hz2')
      (try simp only [World.size_alloc] at hcy)
      (try clear z0 z0f z1 z1f z2 z2f x0 x0f x1 x1f x2 x2f)
      replace HB := hide (below_gr (unhide HB) hg (by omega))
      replace HZ := hide ((unhide HZ).kg hg (by omega))
      replace HX := hide ((unhide HX).kg hg (by omega))
      replace HP := hide ((unhide HP).kg hg (by omega))
      replace HRd := hide hr
      clear hr hg
      clear hlt hy
      have z0 := (unhide HZ).cell 0 rfl
      have z0f := (unhide HZ).frozen 0 rfl
      have z1 := (unhide HZ).cell 1 rfl
      have z1f := (unhide HZ).frozen 1 rfl
      have z2 := (unhide HZ).cell 2 rfl
      have z2f := (unhide HZ).frozen 2 rfl
      have x0 := (unhide HX).cell 0 rfl
      have x0f := (unhide HX).frozen 0 rfl
      have x1 := (unhide HX).cell 1 rfl
      have x1f := (unhide HX).frozen 1 rfl
      have x2 := (unhide HX).cell 2 rfl
      have x2f := (unhide HX).frozen 2 rfl
      go_wp2_with fail
      go_region
      all_goals
        go_wp2_with fail
        exact bodyPost_ret (v := .tuple #[.int .i64 rt2, .int .i64 yy, rowV a c d, .slice ap (0) (cp)]) (by simp [results, Try.results60, go_sem, z0, z1, z2]) rfl ⟨_, _, _, _, _, [], _, _, _, rfl, rfl, by omega, by omega, unhide HFR, Row.nil _ _, (below_sc (below_sc (below_sc (unhide HB) (by dsimp only; omega)) (by dsimp only; omega)) (by dsimp only; omega)).drew⟩
    have hpos : 0 < ps.length := List.length_pos_iff.2 hz
    obtain ⟨b, off, rfl, -⟩ := (unhide HP).1.2 hz
    have hgt : (0 : Int) < (ps.length : Int) := by omega
    clear hz
    by_cases hc1 : cp = 1
    case pos =>
      subst hc1
      go_wp2_with fail
      refine (c155 r (0 + 270 + 1 + 3 + 1 + 1 + 4 + 1) 12 _ (by omega) (by omega) (unhide HRd)).mono ?_
      rintro e w11 ⟨b3, rfl, hr, hg⟩
      (try clear z0 z0f z1 z1f z2 z2f x0 x0f x1 x1f x2 x2f)
      replace HB := hide (below_gr (unhide HB) hg (by omega))
      replace HZ := hide ((unhide HZ).kg hg (by omega))
      replace HX := hide ((unhide HX).kg hg (by omega))
      replace HP := hide ((unhide HP).kg hg (by omega))
      replace HRd := hide hr
      clear hr hg
      have z0 := (unhide HZ).cell 0 rfl
      have z0f := (unhide HZ).frozen 0 rfl
      have z1 := (unhide HZ).cell 1 rfl
      have z1f := (unhide HZ).frozen 1 rfl
      have z2 := (unhide HZ).cell 2 rfl
      have z2f := (unhide HZ).frozen 2 rfl
      have x0 := (unhide HX).cell 0 rfl
      have x0f := (unhide HX).frozen 0 rfl
      have x1 := (unhide HX).cell 1 rfl
      have x1f := (unhide HX).frozen 1 rfl
      have x2 := (unhide HX).cell 2 rfl
      have x2f := (unhide HX).frozen 2 rfl
      cases b3
      case false =>
        go_wp2_with fail
        go_region
        all_goals
          go_wp2_with fail
          exact bodyPost_ret (v := .tuple #[.int .i64 rt2, .int .i64 (tN : Int), rowV a c d, .slice (some ⟨b, off, none⟩) (0) (0)]) (by simp [results, Try.results60, go_sem, z0, z1, z2]) rfl ⟨_, _, _, _, _, [], _, _, _, rfl, rfl, by omega, by omega, unhide HFR, Row.nil _ _, (below_sc (below_sc (below_sc (unhide HB) (by dsimp only; omega)) (by dsimp only; omega)) (by dsimp only; omega)).drew⟩
      go_wp2_with fail
      refine (pick_lit r (0 + 270 + 1 + 3 + 1 + 1 + 4 + 1 + 1) 2 _ _ (by omega) (by omega) (unhide HRd)).mono ?_
      rintro e w12 ⟨z, rfl, hz, hz2', hr, hg, hlt⟩
      obtain ⟨zN, yy, rfl, hzN, hy, hcy⟩ := lit_val (l := [-1, 8]) hlt hz (by simpa using hz2')
      (try simp only [World.size_alloc] at hcy)
      (try clear z0 z0f z1 z1f z2 z2f x0 x0f x1 x1f x2 x2f)
      replace HB := hide (below_gr (unhide HB) hg (by omega))
      replace HZ := hide ((unhide HZ).kg hg (by omega))
      replace HX := hide ((unhide HX).kg hg (by omega))
      replace HP := hide ((unhide HP).kg hg (by omega))
      replace HRd := hide hr
      clear hr hg
      clear hlt hy
      have z0 := (unhide HZ).cell 0 rfl
      have z0f := (unhide HZ).frozen 0 rfl
      have z1 := (unhide HZ).cell 1 rfl
      have z1f := (unhide HZ).frozen 1 rfl
      have z2 := (unhide HZ).cell 2 rfl
      have z2f := (unhide HZ).frozen 2 rfl
      have x0 := (unhide HX).cell 0 rfl
      have x0f := (unhide HX).frozen 0 rfl
      have x1 := (unhide HX).cell 1 rfl
      have x1f := (unhide HX).frozen 1 rfl
      have x2 := (unhide HX).cell 2 rfl
      have x2f := (unhide HX).frozen 2 rfl
      go_wp2_with fail
      go_region
      all_goals
        go_wp2_with fail
        exact bodyPost_ret (v := .tuple #[.int .i64 rt2, .int .i64 yy, rowV a c d, .slice (some ⟨b, off, none⟩) (0) (0)]) (by simp [results, Try.results60, go_sem, z0, z1, z2]) rfl ⟨_, _, _, _, _, [], _, _, _, rfl, rfl, by omega, by omega, unhide HFR, Row.nil _ _, (below_sc (below_sc (below_sc (unhide HB) (by dsimp only; omega)) (by dsimp only; omega)) (by dsimp only; omega)).drew⟩
    replace HP := hide ((unhide HP).drop 1)
    go_wp2_with fail
    refine (c155 r (0 + 270 + 1 + 3 + 1 + 1 + 4 + 1) 12 _ (by omega) (by omega) (unhide HRd)).mono ?_
    rintro e w11 ⟨b3, rfl, hr, hg⟩
    (try clear z0 z0f z1 z1f z2 z2f x0 x0f x1 x1f x2 x2f)
    replace HB := hide (below_gr (unhide HB) hg (by omega))
    replace HZ := hide ((unhide HZ).kg hg (by omega))
    replace HX := hide ((unhide HX).kg hg (by omega))
    replace HP := hide ((unhide HP).kg hg (by omega))
    replace HRd := hide hr
    clear hr hg
    have z0 := (unhide HZ).cell 0 rfl
    have z0f := (unhide HZ).frozen 0 rfl
    have z1 := (unhide HZ).cell 1 rfl
    have z1f := (unhide HZ).frozen 1 rfl
    have z2 := (unhide HZ).cell 2 rfl
    have z2f := (unhide HZ).frozen 2 rfl
    have x0 := (unhide HX).cell 0 rfl
    have x0f := (unhide HX).frozen 0 rfl
    have x1 := (unhide HX).cell 1 rfl
    have x1f := (unhide HX).frozen 1 rfl
    have x2 := (unhide HX).cell 2 rfl
    have x2f := (unhide HX).frozen 2 rfl
    cases b3
    case false =>
      go_wp2_with fail
      go_region
      all_goals
        go_wp2_with fail
        exact bodyPost_ret (v := .tuple #[.int .i64 rt2, .int .i64 (tN : Int), rowV a c d, .slice (some ⟨b, off + 1, none⟩) (ps.length - 1) (cp - 1)]) (by simp [results, Try.results60, go_sem, z0, z1, z2]) rfl ⟨_, _, _, _, _, (ps.drop 1), _, _, _, rfl, by rw [List.length_drop], by omega, by omega, unhide HFR, (((((unhide HP).oth _ (by omega)).oth _ (by omega)).oth _ (by omega)).bel (below_drew _)).1, (below_sc (below_sc (below_sc (unhide HB) (by dsimp only; omega)) (by dsimp only; omega)) (by dsimp only; omega)).drew⟩
    go_wp2_with fail
    refine (pick_lit r (0 + 270 + 1 + 3 + 1 + 1 + 4 + 1 + 1) 2 _ _ (by omega) (by omega) (unhide HRd)).mono ?_
    rintro e w12 ⟨z, rfl, hz, hz2', hr, hg, hlt⟩
    obtain ⟨zN, yy, rfl, hzN, hy, hcy⟩ := lit_val (l := [-1, 8]) hlt hz (by simpa using hz2')
    (try simp only [World.size_alloc] at hcy)
    (try clear z0 z0f z1 z1f z2 z2f x0 x0f x1 x1f x2 x2f)
    replace HB := hide (below_gr (unhide HB) hg (by omega))
    replace HZ := hide ((unhide HZ).kg hg (by omega))
    replace HX := hide ((unhide HX).kg hg (by omega))
    replace HP := hide ((unhide HP).kg hg (by omega))
    replace HRd := hide hr
    clear hr hg
    clear hlt hy
    have z0 := (unhide HZ).cell 0 rfl
    have z0f := (unhide HZ).frozen 0 rfl
    have z1 := (unhide HZ).cell 1 rfl
    have z1f := (unhide HZ).frozen 1 rfl
    have z2 := (unhide HZ).cell 2 rfl
    have z2f := (unhide HZ).frozen 2 rfl
    have x0 := (unhide HX).cell 0 rfl
    have x0f := (unhide HX).frozen 0 rfl
    have x1 := (unhide HX).cell 1 rfl
    have x1f := (unhide HX).frozen 1 rfl
    have x2 := (unhide HX).cell 2 rfl
    have x2f := (unhide HX).frozen 2 rfl
    go_wp2_with fail
    go_region
    all_goals
      go_wp2_with fail
      exact bodyPost_ret (v := .tuple #[.int .i64 rt2, .int .i64 yy, rowV a c d, .slice (some ⟨b, off + 1, none⟩) (ps.length - 1) (cp - 1)]) (by simp [results, Try.results60, go_sem, z0, z1, z2]) rfl ⟨_, _, _, _, _, (ps.drop 1), _, _, _, rfl, by rw [List.length_drop], by omega, by omega, unhide HFR, (((((unhide HP).oth _ (by omega)).oth _ (by omega)).oth _ (by omega)).bel (below_drew _)).1, (below_sc (below_sc (below_sc (unhide HB) (by dsimp only; omega)) (by dsimp only; omega)) (by dsimp only; omega)).drew⟩
  have hx1 : 0 < x := by omega
  obtain ⟨ra, rc, rd, hj⟩ := r_at (show tN < rs.length by omega)
  have HJ := hide hj
  have hne : rs ≠ [] := by intro e; rw [e] at hj; simp at hj
  have HF2 : Hid (FitR (ra, rc, rd)) := (unhide HW).1.1 _ (mem_at hj)
  obtain ⟨b, off, rfl, hcc⟩ := (unhide HW).1.2 hne
  obtain ⟨c0, c1, c2⟩ := r_cells (Below.refl _ _) hcc hj
  have hbx : b < w4.heap.size := unhide HBL hne _ rfl
  clear hcc hj h0 hne
  go_wp2_with fail
  (try clear z0 z0f z1 z1f z2 z2f x0 x0f x1 x1f x2 x2f)
  clear c0 c1 c2 HFR
  have HFR := HF2
  clear HF2
  replace HRd := hide (((((unhide HRd).oth (i := 0) (g := w4.heap.size) (.int .i64 ra) hzHX).oth (i := 1) (g := w4.heap.size) (.int .i64 rc) hzHX).oth (i := 2) (g := w4.heap.size) (.bool rd) hzHX))
  replace HB := hide ((below_sc (p := ⟨w4.heap.size, 2, none⟩) (v := .bool rd) (below_sc (p := ⟨w4.heap.size, 1, none⟩) (v := .int .i64 rc) (below_sc (p := ⟨w4.heap.size, 0, none⟩) (v := .int .i64 ra) (unhide HB) (by dsimp only; omega)) (by dsimp only; omega)) (by dsimp only; omega)))
  replace HZ := hide (((((unhide HZ).oth (i := 0) (g' := w4.heap.size) (.int .i64 ra) (by omega)).oth (i := 1) (g' := w4.heap.size) (.int .i64 rc) (by omega)).oth (i := 2) (g' := w4.heap.size) (.bool rd) (by omega)))
  have hkne : ∀ a : Addr, some (⟨b, off, none⟩ : Addr) = some a → some a.block ≠ some w4.heap.size := by intro a ha; cases ha; simp only [ne_eq, Option.some.injEq]; omega
  have hW2 := ((((unhide HW).1.kpt (grown_cel _ w4.heap.size 0 (.int .i64 ra)) hkne).kpt (grown_cel _ w4.heap.size 1 (.int .i64 rc)) hkne).kpt (grown_cel _ w4.heap.size 2 (.bool rd)) hkne)
  have HW2 := hide (show RRowA _ _ _ _ from ⟨hW2, (unhide HW).2⟩)
  clear hW2 HW hkne
  have HW := HW2
  clear HW2
  have hX2 : Box _ _ [.int .i64 ra, .int .i64 rc, .bool rd] := (box_put (box_put (box_put (unhide HX) 0 (.int .i64 ra) (by simp)) 1 (.int .i64 rc) (by simp)) 2 (.bool rd) (by simp))
  clear HX
  have HX := hide hX2
  clear hX2
  replace hry : r + 1 ≤ (((w5.setCell ⟨w4.heap.size, 0, none⟩ (.int .i64 ra)).setCell ⟨w4.heap.size, 1, none⟩ (.int .i64 rc)).setCell ⟨w4.heap.size, 2, none⟩ (.bool rd)).heap.size := by simp only [World.size_setCell]; omega
  refine (c54 rs (tN : Int) _ 8 crs _ hnrs (by omega) (unhide HW).1).mono ?_
  rintro e y1 ⟨v, rfl, ho, hb⟩
  obtain ⟨ap, cp, rfl, hcp, hrr, hbl⟩ := ho.row
  have hbz := fun a ha => (hbl a ha).1
  (try clear z0 z0f z1 z1f z2 z2f x0 x0f x1 x1f x2 x2f)
  replace HB := hide (below_tr (unhide HB) hb)
  replace HRd := hide ((unhide HRd).bel hb)
  replace HZ := hide ((unhide HZ).bel hb)
  replace HW := hide ((unhide HW).bel hb)
  replace HX := hide ((unhide HX).bel hb)
  clear hb
  have z0 := (unhide HZ).cell 0 rfl
  have z0f := (unhide HZ).frozen 0 rfl
  have z1 := (unhide HZ).cell 1 rfl
  have z1f := (unhide HZ).frozen 1 rfl
  have z2 := (unhide HZ).cell 2 rfl
  have z2f := (unhide HZ).frozen 2 rfl
  have x0 := (unhide HX).cell 0 rfl
  have x0f := (unhide HX).frozen 0 rfl
  have x1 := (unhide HX).cell 1 rfl
  have x1f := (unhide HX).frozen 1 rfl
  have x2 := (unhide HX).cell 2 rfl
  have x2f := (unhide HX).frozen 2 rfl
  have hpl := ownProof_len rs (tN : Int)
  generalize hps : ownProof rs (tN : Int) = ps at *
  have HP : Hid (RowA y1 (r + 1) ap ps) := ⟨hrr, fun a ha => by have h1 := hbz a ha; have h2 := hry; omega⟩
  clear hps ho hrr hbl hbz hry
  go_wp2_with fail
  refine (c55 rs _ 8 crs _ hnrs (by omega) (unhide HW).1).mono ?_
  rintro e y2 ⟨rfl, hb⟩
  (try clear z0 z0f z1 z1f z2 z2f x0 x0f x1 x1f x2 x2f)
  replace HB := hide (below_tr (unhide HB) hb)
  replace HRd := hide ((unhide HRd).bel hb)
  replace HZ := hide ((unhide HZ).bel hb)
  replace HW := hide ((unhide HW).bel hb)
  replace HX := hide ((unhide HX).bel hb)
  replace HP := hide ((unhide HP).bel hb)
  clear hb
  have z0 := (unhide HZ).cell 0 rfl
  have z0f := (unhide HZ).frozen 0 rfl
  have z1 := (unhide HZ).cell 1 rfl
  have z1f := (unhide HZ).frozen 1 rfl
  have z2 := (unhide HZ).cell 2 rfl
  have z2f := (unhide HZ).frozen 2 rfl
  have x0 := (unhide HX).cell 0 rfl
  have x0f := (unhide HX).frozen 0 rfl
  have x1 := (unhide HX).cell 1 rfl
  have x1f := (unhide HX).frozen 1 rfl
  have x2 := (unhide HX).cell 2 rfl
  have x2f := (unhide HX).frozen 2 rfl
  generalize ownRoot rs = rt at *
  (try clear z0 z0f z1 z1f z2 z2f x0 x0f x1 x1f x2 x2f)
  clear HW
  have z0 := (unhide HZ).cell 0 rfl
  have z0f := (unhide HZ).frozen 0 rfl
  have z1 := (unhide HZ).cell 1 rfl
  have z1f := (unhide HZ).frozen 1 rfl
  have z2 := (unhide HZ).cell 2 rfl
  have z2f := (unhide HZ).frozen 2 rfl
  have x0 := (unhide HX).cell 0 rfl
  have x0f := (unhide HX).frozen 0 rfl
  have x1 := (unhide HX).cell 1 rfl
  have x1f := (unhide HX).frozen 1 rfl
  have x2 := (unhide HX).cell 2 rfl
  have x2f := (unhide HX).frozen 2 rfl
  go_wp2_with fail
  refine (c155 r (0 + 270 + 1 + 3 + 1) 8 _ (by omega) (by omega) (unhide HRd)).mono ?_
  rintro e w8 ⟨b1, rfl, hr, hg⟩
  (try clear z0 z0f z1 z1f z2 z2f x0 x0f x1 x1f x2 x2f)
  replace HB := hide (below_gr (unhide HB) hg (by omega))
  replace HZ := hide ((unhide HZ).kg hg (by omega))
  replace HX := hide ((unhide HX).kg hg (by omega))
  replace HP := hide ((unhide HP).kg hg (by omega))
  replace HRd := hide hr
  clear hr hg
  have z0 := (unhide HZ).cell 0 rfl
  have z0f := (unhide HZ).frozen 0 rfl
  have z1 := (unhide HZ).cell 1 rfl
  have z1f := (unhide HZ).frozen 1 rfl
  have z2 := (unhide HZ).cell 2 rfl
  have z2f := (unhide HZ).frozen 2 rfl
  have x0 := (unhide HX).cell 0 rfl
  have x0f := (unhide HX).frozen 0 rfl
  have x1 := (unhide HX).cell 1 rfl
  have x1f := (unhide HX).frozen 1 rfl
  have x2 := (unhide HX).cell 2 rfl
  have x2f := (unhide HX).frozen 2 rfl
  cases b1
  case false =>
    go_wp2_with fail
    refine (c155 r (0 + 270 + 1 + 3 + 1 + 1) 8 _ (by omega) (by omega) (unhide HRd)).mono ?_
    rintro e w9 ⟨b2, rfl, hr, hg⟩
    (try clear z0 z0f z1 z1f z2 z2f x0 x0f x1 x1f x2 x2f)
    replace HB := hide (below_gr (unhide HB) hg (by omega))
    replace HZ := hide ((unhide HZ).kg hg (by omega))
    replace HX := hide ((unhide HX).kg hg (by omega))
    replace HP := hide ((unhide HP).kg hg (by omega))
    replace HRd := hide hr
    clear hr hg
    have z0 := (unhide HZ).cell 0 rfl
    have z0f := (unhide HZ).frozen 0 rfl
    have z1 := (unhide HZ).cell 1 rfl
    have z1f := (unhide HZ).frozen 1 rfl
    have z2 := (unhide HZ).cell 2 rfl
    have z2f := (unhide HZ).frozen 2 rfl
    have x0 := (unhide HX).cell 0 rfl
    have x0f := (unhide HX).frozen 0 rfl
    have x1 := (unhide HX).cell 1 rfl
    have x1f := (unhide HX).frozen 1 rfl
    have x2 := (unhide HX).cell 2 rfl
    have x2f := (unhide HX).frozen 2 rfl
    cases b2
    case false =>
      go_wp2_with fail
      refine (c155 r (0 + 270 + 1 + 3 + 1 + 1 + 1) 12 _ (by omega) (by omega) (unhide HRd)).mono ?_
      rintro e w10 ⟨b3, rfl, hr, hg⟩
      (try clear z0 z0f z1 z1f z2 z2f x0 x0f x1 x1f x2 x2f)
      replace HB := hide (below_gr (unhide HB) hg (by omega))
      replace HZ := hide ((unhide HZ).kg hg (by omega))
      replace HX := hide ((unhide HX).kg hg (by omega))
      replace HP := hide ((unhide HP).kg hg (by omega))
      replace HRd := hide hr
      clear hr hg
      have z0 := (unhide HZ).cell 0 rfl
      have z0f := (unhide HZ).frozen 0 rfl
      have z1 := (unhide HZ).cell 1 rfl
      have z1f := (unhide HZ).frozen 1 rfl
      have z2 := (unhide HZ).cell 2 rfl
      have z2f := (unhide HZ).frozen 2 rfl
      have x0 := (unhide HX).cell 0 rfl
      have x0f := (unhide HX).frozen 0 rfl
      have x1 := (unhide HX).cell 1 rfl
      have x1f := (unhide HX).frozen 1 rfl
      have x2 := (unhide HX).cell 2 rfl
      have x2f := (unhide HX).frozen 2 rfl
      cases b3
      case false =>
        go_wp2_with fail
        go_region
        all_goals
          go_wp2_with fail
          exact bodyPost_ret (v := .tuple #[.int .i64 rt, .int .i64 (tN : Int), rowV ra rc rd, .slice ap (ps.length) (cp)]) (by simp [results, Try.results60, go_sem, z0, z1, z2]) rfl ⟨_, _, _, _, _, ps, _, _, _, rfl, rfl, by omega, by omega, unhide HFR, (((((unhide HP).oth _ (by omega)).oth _ (by omega)).oth _ (by omega)).bel (below_drew _)).1, (below_sc (below_sc (below_sc (unhide HB) (by dsimp only; omega)) (by dsimp only; omega)) (by dsimp only; omega)).drew⟩
      go_wp2_with fail
      refine (pick_lit r (0 + 270 + 1 + 3 + 1 + 1 + 1 + 1) 2 _ _ (by omega) (by omega) (unhide HRd)).mono ?_
      rintro e w11 ⟨z, rfl, hz, hz2', hr, hg, hlt⟩
      obtain ⟨zN, yy, rfl, hzN, hy, hcy⟩ := lit_val (l := [-1, 8]) hlt hz (by simpa using hz2')
      (try simp only [World.size_alloc] at hcy)
      (try clear z0 z0f z1 z1f z2 z2f x0 x0f x1 x1f x2 x2f)
      replace HB := hide (below_gr (unhide HB) hg (by omega))
      replace HZ := hide ((unhide HZ).kg hg (by omega))
      replace HX := hide ((unhide HX).kg hg (by omega))
      replace HP := hide ((unhide HP).kg hg (by omega))
      replace HRd := hide hr
      clear hr hg
      clear hlt hy
      have z0 := (unhide HZ).cell 0 rfl
      have z0f := (unhide HZ).frozen 0 rfl
      have z1 := (unhide HZ).cell 1 rfl
      have z1f := (unhide HZ).frozen 1 rfl
      have z2 := (unhide HZ).cell 2 rfl
      have z2f := (unhide HZ).frozen 2 rfl
      have x0 := (unhide HX).cell 0 rfl
      have x0f := (unhide HX).frozen 0 rfl
      have x1 := (unhide HX).cell 1 rfl
      have x1f := (unhide HX).frozen 1 rfl
      have x2 := (unhide HX).cell 2 rfl
      have x2f := (unhide HX).frozen 2 rfl
      go_wp2_with fail
      go_region
      all_goals
        go_wp2_with fail
        exact bodyPost_ret (v := .tuple #[.int .i64 rt, .int .i64 yy, rowV ra rc rd, .slice ap (ps.length) (cp)]) (by simp [results, Try.results60, go_sem, z0, z1, z2]) rfl ⟨_, _, _, _, _, ps, _, _, _, rfl, rfl, by omega, by omega, unhide HFR, (((((unhide HP).oth _ (by omega)).oth _ (by omega)).oth _ (by omega)).bel (below_drew _)).1, (below_sc (below_sc (below_sc (unhide HB) (by dsimp only; omega)) (by dsimp only; omega)) (by dsimp only; omega)).drew⟩
    by_cases hz : ps = []
    case pos =>
      subst hz
      go_wp2_with fail
      refine (c155 r (0 + 270 + 1 + 3 + 1 + 1 + 1) 12 _ (by omega) (by omega) (unhide HRd)).mono ?_
      rintro e w10 ⟨b3, rfl, hr, hg⟩
      (try clear z0 z0f z1 z1f z2 z2f x0 x0f x1 x1f x2 x2f)
      replace HB := hide (below_gr (unhide HB) hg (by omega))
      replace HZ := hide ((unhide HZ).kg hg (by omega))
      replace HX := hide ((unhide HX).kg hg (by omega))
      replace HP := hide ((unhide HP).kg hg (by omega))
      replace HRd := hide hr
      clear hr hg
      have z0 := (unhide HZ).cell 0 rfl
      have z0f := (unhide HZ).frozen 0 rfl
      have z1 := (unhide HZ).cell 1 rfl
      have z1f := (unhide HZ).frozen 1 rfl
      have z2 := (unhide HZ).cell 2 rfl
      have z2f := (unhide HZ).frozen 2 rfl
      have x0 := (unhide HX).cell 0 rfl
      have x0f := (unhide HX).frozen 0 rfl
      have x1 := (unhide HX).cell 1 rfl
      have x1f := (unhide HX).frozen 1 rfl
      have x2 := (unhide HX).cell 2 rfl
      have x2f := (unhide HX).frozen 2 rfl
      cases b3
      case false =>
        go_wp2_with fail
        go_region
        all_goals
          go_wp2_with fail
          exact bodyPost_ret (v := .tuple #[.int .i64 rt, .int .i64 (tN : Int), rowV ra rc rd, .slice ap (0) (cp)]) (by simp [results, Try.results60, go_sem, z0, z1, z2]) rfl ⟨_, _, _, _, _, [], _, _, _, rfl, rfl, by omega, by omega, unhide HFR, Row.nil _ _, (below_sc (below_sc (below_sc (unhide HB) (by dsimp only; omega)) (by dsimp only; omega)) (by dsimp only; omega)).drew⟩
      go_wp2_with fail
      refine (pick_lit r (0 + 270 + 1 + 3 + 1 + 1 + 1 + 1) 2 _ _ (by omega) (by omega) (unhide HRd)).mono ?_
      rintro e w11 ⟨z, rfl, hz, hz2', hr, hg, hlt⟩
      obtain ⟨zN, yy, rfl, hzN, hy, hcy⟩ := lit_val (l := [-1, 8]) hlt hz (by simpa using hz2')
      (try simp only [World.size_alloc] at hcy)
      (try clear z0 z0f z1 z1f z2 z2f x0 x0f x1 x1f x2 x2f)
      replace HB := hide (below_gr (unhide HB) hg (by omega))
      replace HZ := hide ((unhide HZ).kg hg (by omega))
      replace HX := hide ((unhide HX).kg hg (by omega))
      replace HP := hide ((unhide HP).kg hg (by omega))
      replace HRd := hide hr
      clear hr hg
      clear hlt hy
      have z0 := (unhide HZ).cell 0 rfl
      have z0f := (unhide HZ).frozen 0 rfl
      have z1 := (unhide HZ).cell 1 rfl
      have z1f := (unhide HZ).frozen 1 rfl
      have z2 := (unhide HZ).cell 2 rfl
      have z2f := (unhide HZ).frozen 2 rfl
      have x0 := (unhide HX).cell 0 rfl
      have x0f := (unhide HX).frozen 0 rfl
      have x1 := (unhide HX).cell 1 rfl
      have x1f := (unhide HX).frozen 1 rfl
      have x2 := (unhide HX).cell 2 rfl
      have x2f := (unhide HX).frozen 2 rfl
      go_wp2_with fail
      go_region
      all_goals
        go_wp2_with fail
        exact bodyPost_ret (v := .tuple #[.int .i64 rt, .int .i64 yy, rowV ra rc rd, .slice ap (0) (cp)]) (by simp [results, Try.results60, go_sem, z0, z1, z2]) rfl ⟨_, _, _, _, _, [], _, _, _, rfl, rfl, by omega, by omega, unhide HFR, Row.nil _ _, (below_sc (below_sc (below_sc (unhide HB) (by dsimp only; omega)) (by dsimp only; omega)) (by dsimp only; omega)).drew⟩
    have hpos : 0 < ps.length := List.length_pos_iff.2 hz
    obtain ⟨b, off, rfl, -⟩ := (unhide HP).1.2 hz
    have hgt : (0 : Int) < (ps.length : Int) := by omega
    clear hz
    by_cases hc1 : cp = 1
    case pos =>
      subst hc1
      go_wp2_with fail
      refine (c155 r (0 + 270 + 1 + 3 + 1 + 1 + 1) 12 _ (by omega) (by omega) (unhide HRd)).mono ?_
      rintro e w10 ⟨b3, rfl, hr, hg⟩
      (try clear z0 z0f z1 z1f z2 z2f x0 x0f x1 x1f x2 x2f)
      replace HB := hide (below_gr (unhide HB) hg (by omega))
      replace HZ := hide ((unhide HZ).kg hg (by omega))
      replace HX := hide ((unhide HX).kg hg (by omega))
      replace HP := hide ((unhide HP).kg hg (by omega))
      replace HRd := hide hr
      clear hr hg
      have z0 := (unhide HZ).cell 0 rfl
      have z0f := (unhide HZ).frozen 0 rfl
      have z1 := (unhide HZ).cell 1 rfl
      have z1f := (unhide HZ).frozen 1 rfl
      have z2 := (unhide HZ).cell 2 rfl
      have z2f := (unhide HZ).frozen 2 rfl
      have x0 := (unhide HX).cell 0 rfl
      have x0f := (unhide HX).frozen 0 rfl
      have x1 := (unhide HX).cell 1 rfl
      have x1f := (unhide HX).frozen 1 rfl
      have x2 := (unhide HX).cell 2 rfl
      have x2f := (unhide HX).frozen 2 rfl
      cases b3
      case false =>
        go_wp2_with fail
        go_region
        all_goals
          go_wp2_with fail
          exact bodyPost_ret (v := .tuple #[.int .i64 rt, .int .i64 (tN : Int), rowV ra rc rd, .slice (some ⟨b, off, none⟩) (0) (0)]) (by simp [results, Try.results60, go_sem, z0, z1, z2]) rfl ⟨_, _, _, _, _, [], _, _, _, rfl, rfl, by omega, by omega, unhide HFR, Row.nil _ _, (below_sc (below_sc (below_sc (unhide HB) (by dsimp only; omega)) (by dsimp only; omega)) (by dsimp only; omega)).drew⟩
      go_wp2_with fail
      refine (pick_lit r (0 + 270 + 1 + 3 + 1 + 1 + 1 + 1) 2 _ _ (by omega) (by omega) (unhide HRd)).mono ?_
      rintro e w11 ⟨z, rfl, hz, hz2', hr, hg, hlt⟩
      obtain ⟨zN, yy, rfl, hzN, hy, hcy⟩ := lit_val (l := [-1, 8]) hlt hz (by simpa using hz2')
      (try simp only [World.size_alloc] at hcy)
      (try clear z0 z0f z1 z1f z2 z2f x0 x0f x1 x1f x2 x2f)
      replace HB := hide (below_gr (unhide HB) hg (by omega))
      replace HZ := hide ((unhide HZ).kg hg (by omega))
      replace HX := hide ((unhide HX).kg hg (by omega))
      replace HP := hide ((unhide HP).kg hg (by omega))
      replace HRd := hide hr
      clear hr hg
      clear hlt hy
      have z0 := (unhide HZ).cell 0 rfl
      have z0f := (unhide HZ).frozen 0 rfl
      have z1 := (unhide HZ).cell 1 rfl
      have z1f := (unhide HZ).frozen 1 rfl
      have z2 := (unhide HZ).cell 2 rfl
      have z2f := (unhide HZ).frozen 2 rfl
      have x0 := (unhide HX).cell 0 rfl
      have x0f := (unhide HX).frozen 0 rfl
      have x1 := (unhide HX).cell 1 rfl
      have x1f := (unhide HX).frozen 1 rfl
      have x2 := (unhide HX).cell 2 rfl
      have x2f := (unhide HX).frozen 2 rfl
      go_wp2_with fail
      go_region
      all_goals
        go_wp2_with fail
        exact bodyPost_ret (v := .tuple #[.int .i64 rt, .int .i64 yy, rowV ra rc rd, .slice (some ⟨b, off, none⟩) (0) (0)]) (by simp [results, Try.results60, go_sem, z0, z1, z2]) rfl ⟨_, _, _, _, _, [], _, _, _, rfl, rfl, by omega, by omega, unhide HFR, Row.nil _ _, (below_sc (below_sc (below_sc (unhide HB) (by dsimp only; omega)) (by dsimp only; omega)) (by dsimp only; omega)).drew⟩
    replace HP := hide ((unhide HP).drop 1)
    go_wp2_with fail
    refine (c155 r (0 + 270 + 1 + 3 + 1 + 1 + 1) 12 _ (by omega) (by omega) (unhide HRd)).mono ?_
    rintro e w10 ⟨b3, rfl, hr, hg⟩
    (try clear z0 z0f z1 z1f z2 z2f x0 x0f x1 x1f x2 x2f)
    replace HB := hide (below_gr (unhide HB) hg (by omega))
    replace HZ := hide ((unhide HZ).kg hg (by omega))
    replace HX := hide ((unhide HX).kg hg (by omega))
    replace HP := hide ((unhide HP).kg hg (by omega))
    replace HRd := hide hr
    clear hr hg
    have z0 := (unhide HZ).cell 0 rfl
    have z0f := (unhide HZ).frozen 0 rfl
    have z1 := (unhide HZ).cell 1 rfl
    have z1f := (unhide HZ).frozen 1 rfl
    have z2 := (unhide HZ).cell 2 rfl
    have z2f := (unhide HZ).frozen 2 rfl
    have x0 := (unhide HX).cell 0 rfl
    have x0f := (unhide HX).frozen 0 rfl
    have x1 := (unhide HX).cell 1 rfl
    have x1f := (unhide HX).frozen 1 rfl
    have x2 := (unhide HX).cell 2 rfl
    have x2f := (unhide HX).frozen 2 rfl
    cases b3
    case false =>
      go_wp2_with fail
      go_region
      all_goals
        go_wp2_with fail
        exact bodyPost_ret (v := .tuple #[.int .i64 rt, .int .i64 (tN : Int), rowV ra rc rd, .slice (some ⟨b, off + 1, none⟩) (ps.length - 1) (cp - 1)]) (by simp [results, Try.results60, go_sem, z0, z1, z2]) rfl ⟨_, _, _, _, _, (ps.drop 1), _, _, _, rfl, by rw [List.length_drop], by omega, by omega, unhide HFR, (((((unhide HP).oth _ (by omega)).oth _ (by omega)).oth _ (by omega)).bel (below_drew _)).1, (below_sc (below_sc (below_sc (unhide HB) (by dsimp only; omega)) (by dsimp only; omega)) (by dsimp only; omega)).drew⟩
    go_wp2_with fail
    refine (pick_lit r (0 + 270 + 1 + 3 + 1 + 1 + 1 + 1) 2 _ _ (by omega) (by omega) (unhide HRd)).mono ?_
    rintro e w11 ⟨z, rfl, hz, hz2', hr, hg, hlt⟩
    obtain ⟨zN, yy, rfl, hzN, hy, hcy⟩ := lit_val (l := [-1, 8]) hlt hz (by simpa using hz2')
    (try simp only [World.size_alloc] at hcy)
    (try clear z0 z0f z1 z1f z2 z2f x0 x0f x1 x1f x2 x2f)
    replace HB := hide (below_gr (unhide HB) hg (by omega))
    replace HZ := hide ((unhide HZ).kg hg (by omega))
    replace HX := hide ((unhide HX).kg hg (by omega))
    replace HP := hide ((unhide HP).kg hg (by omega))
    replace HRd := hide hr
    clear hr hg
    clear hlt hy
    have z0 := (unhide HZ).cell 0 rfl
    have z0f := (unhide HZ).frozen 0 rfl
    have z1 := (unhide HZ).cell 1 rfl
    have z1f := (unhide HZ).frozen 1 rfl
    have z2 := (unhide HZ).cell 2 rfl
    have z2f := (unhide HZ).frozen 2 rfl
    have x0 := (unhide HX).cell 0 rfl
    have x0f := (unhide HX).frozen 0 rfl
    have x1 := (unhide HX).cell 1 rfl
    have x1f := (unhide HX).frozen 1 rfl
    have x2 := (unhide HX).cell 2 rfl
    have x2f := (unhide HX).frozen 2 rfl
    go_wp2_with fail
    go_region
    all_goals
      go_wp2_with fail
      exact bodyPost_ret (v := .tuple #[.int .i64 rt, .int .i64 yy, rowV ra rc rd, .slice (some ⟨b, off + 1, none⟩) (ps.length - 1) (cp - 1)]) (by simp [results, Try.results60, go_sem, z0, z1, z2]) rfl ⟨_, _, _, _, _, (ps.drop 1), _, _, _, rfl, by rw [List.length_drop], by omega, by omega, unhide HFR, (((((unhide HP).oth _ (by omega)).oth _ (by omega)).oth _ (by omega)).bel (below_drew _)).1, (below_sc (below_sc (below_sc (unhide HB) (by dsimp only; omega)) (by dsimp only; omega)) (by dsimp only; omega)).drew⟩
  go_wp2_with fail
  refine (c156 r (0 + 270 + 1 + 3 + 1 + 1) 4 _ (by omega) (by omega) (unhide HRd)).mono ?_
  rintro e w9 ⟨rt2, rfl, rt2b, hr, hg⟩
  (try clear z0 z0f z1 z1f z2 z2f x0 x0f x1 x1f x2 x2f)
  replace HB := hide (below_gr (unhide HB) hg (by omega))
  replace HZ := hide ((unhide HZ).kg hg (by omega))
  replace HX := hide ((unhide HX).kg hg (by omega))
  replace HP := hide ((unhide HP).kg hg (by omega))
  replace HRd := hide hr
  clear hr hg
  have z0 := (unhide HZ).cell 0 rfl
  have z0f := (unhide HZ).frozen 0 rfl
  have z1 := (unhide HZ).cell 1 rfl
  have z1f := (unhide HZ).frozen 1 rfl
  have z2 := (unhide HZ).cell 2 rfl
  have z2f := (unhide HZ).frozen 2 rfl
  have x0 := (unhide HX).cell 0 rfl
  have x0f := (unhide HX).frozen 0 rfl
  have x1 := (unhide HX).cell 1 rfl
  have x1f := (unhide HX).frozen 1 rfl
  have x2 := (unhide HX).cell 2 rfl
  have x2f := (unhide HX).frozen 2 rfl
  go_wp2_with fail
  refine (c155 r (0 + 270 + 1 + 3 + 1 + 1 + 4) 8 _ (by omega) (by omega) (unhide HRd)).mono ?_
  rintro e w10 ⟨b2, rfl, hr, hg⟩
  (try clear z0 z0f z1 z1f z2 z2f x0 x0f x1 x1f x2 x2f)
  replace HB := hide (below_gr (unhide HB) hg (by omega))
  replace HZ := hide ((unhide HZ).kg hg (by omega))
  replace HX := hide ((unhide HX).kg hg (by omega))
  replace HP := hide ((unhide HP).kg hg (by omega))
  replace HRd := hide hr
  clear hr hg
  have z0 := (unhide HZ).cell 0 rfl
  have z0f := (unhide HZ).frozen 0 rfl
  have z1 := (unhide HZ).cell 1 rfl
  have z1f := (unhide HZ).frozen 1 rfl
  have z2 := (unhide HZ).cell 2 rfl
  have z2f := (unhide HZ).frozen 2 rfl
  have x0 := (unhide HX).cell 0 rfl
  have x0f := (unhide HX).frozen 0 rfl
  have x1 := (unhide HX).cell 1 rfl
  have x1f := (unhide HX).frozen 1 rfl
  have x2 := (unhide HX).cell 2 rfl
  have x2f := (unhide HX).frozen 2 rfl
  cases b2
  case false =>
    go_wp2_with fail
    refine (c155 r (0 + 270 + 1 + 3 + 1 + 1 + 4 + 1) 12 _ (by omega) (by omega) (unhide HRd)).mono ?_
    rintro e w11 ⟨b3, rfl, hr, hg⟩
    (try clear z0 z0f z1 z1f z2 z2f x0 x0f x1 x1f x2 x2f)
    replace HB := hide (below_gr (unhide HB) hg (by omega))
    replace HZ := hide ((unhide HZ).kg hg (by omega))
    replace HX := hide ((unhide HX).kg hg (by omega))
    replace HP := hide ((unhide HP).kg hg (by omega))
    replace HRd := hide hr
    clear hr hg
    have z0 := (unhide HZ).cell 0 rfl
    have z0f := (unhide HZ).frozen 0 rfl
    have z1 := (unhide HZ).cell 1 rfl
    have z1f := (unhide HZ).frozen 1 rfl
    have z2 := (unhide HZ).cell 2 rfl
    have z2f := (unhide HZ).frozen 2 rfl
    have x0 := (unhide HX).cell 0 rfl
    have x0f := (unhide HX).frozen 0 rfl
    have x1 := (unhide HX).cell 1 rfl
    have x1f := (unhide HX).frozen 1 rfl
    have x2 := (unhide HX).cell 2 rfl
    have x2f := (unhide HX).frozen 2 rfl
    cases b3
    case false =>
      go_wp2_with fail
      go_region
      all_goals
        go_wp2_with fail
        exact bodyPost_ret (v := .tuple #[.int .i64 rt2, .int .i64 (tN : Int), rowV ra rc rd, .slice ap (ps.length) (cp)]) (by simp [results, Try.results60, go_sem, z0, z1, z2]) rfl ⟨_, _, _, _, _, ps, _, _, _, rfl, rfl, by omega, by omega, unhide HFR, (((((unhide HP).oth _ (by omega)).oth _ (by omega)).oth _ (by omega)).bel (below_drew _)).1, (below_sc (below_sc (below_sc (unhide HB) (by dsimp only; omega)) (by dsimp only; omega)) (by dsimp only; omega)).drew⟩
    go_wp2_with fail
    refine (pick_lit r (0 + 270 + 1 + 3 + 1 + 1 + 4 + 1 + 1) 2 _ _ (by omega) (by omega) (unhide HRd)).mono ?_
    rintro e w12 ⟨z, rfl, hz, hz2', hr, hg, hlt⟩
    obtain ⟨zN, yy, rfl, hzN, hy, hcy⟩ := lit_val (l := [-1, 8]) hlt hz (by simpa using hz2')
    (try simp only [World.size_alloc] at hcy)
    (try clear z0 z0f z1 z1f z2 z2f x0 x0f x1 x1f x2 x2f)
    replace HB := hide (below_gr (unhide HB) hg (by omega))
    replace HZ := hide ((unhide HZ).kg hg (by omega))
    replace HX := hide ((unhide HX).kg hg (by omega))
    replace HP := hide ((unhide HP).kg hg (by omega))
    replace HRd := hide hr
    clear hr hg
    clear hlt hy
    have z0 := (unhide HZ).cell 0 rfl
    have z0f := (unhide HZ).frozen 0 rfl
    have z1 := (unhide HZ).cell 1 rfl
    have z1f := (unhide HZ).frozen 1 rfl
    have z2 := (unhide HZ).cell 2 rfl
    have z2f := (unhide HZ).frozen 2 rfl
    have x0 := (unhide HX).cell 0 rfl
    have x0f := (unhide HX).frozen 0 rfl
    have x1 := (unhide HX).cell 1 rfl
    have x1f := (unhide HX).frozen 1 rfl
    have x2 := (unhide HX).cell 2 rfl
    have x2f := (unhide HX).frozen 2 rfl
    go_wp2_with fail
    go_region
    all_goals
      go_wp2_with fail
      exact bodyPost_ret (v := .tuple #[.int .i64 rt2, .int .i64 yy, rowV ra rc rd, .slice ap (ps.length) (cp)]) (by simp [results, Try.results60, go_sem, z0, z1, z2]) rfl ⟨_, _, _, _, _, ps, _, _, _, rfl, rfl, by omega, by omega, unhide HFR, (((((unhide HP).oth _ (by omega)).oth _ (by omega)).oth _ (by omega)).bel (below_drew _)).1, (below_sc (below_sc (below_sc (unhide HB) (by dsimp only; omega)) (by dsimp only; omega)) (by dsimp only; omega)).drew⟩
  by_cases hz : ps = []
  case pos =>
    subst hz
    go_wp2_with fail
    refine (c155 r (0 + 270 + 1 + 3 + 1 + 1 + 4 + 1) 12 _ (by omega) (by omega) (unhide HRd)).mono ?_
    rintro e w11 ⟨b3, rfl, hr, hg⟩
    (try clear z0 z0f z1 z1f z2 z2f x0 x0f x1 x1f x2 x2f)
    replace HB := hide (below_gr (unhide HB) hg (by omega))
    replace HZ := hide ((unhide HZ).kg hg (by omega))
    replace HX := hide ((unhide HX).kg hg (by omega))
    replace HP := hide ((unhide HP).kg hg (by omega))
    replace HRd := hide hr
    clear hr hg
    have z0 := (unhide HZ).cell 0 rfl
    have z0f := (unhide HZ).frozen 0 rfl
    have z1 := (unhide HZ).cell 1 rfl
    have z1f := (unhide HZ).frozen 1 rfl
    have z2 := (unhide HZ).cell 2 rfl
    have z2f := (unhide HZ).frozen 2 rfl
    have x0 := (unhide HX).cell 0 rfl
    have x0f := (unhide HX).frozen 0 rfl
    have x1 := (unhide HX).cell 1 rfl
    have x1f := (unhide HX).frozen 1 rfl
    have x2 := (unhide HX).cell 2 rfl
    have x2f := (unhide HX).frozen 2 rfl
    cases b3
    case false =>
      go_wp2_with fail
      go_region
      all_goals
        go_wp2_with fail
        exact bodyPost_ret (v := .tuple #[.int .i64 rt2, .int .i64 (tN : Int), rowV ra rc rd, .slice ap (0) (cp)]) (by simp [results, Try.results60, go_sem, z0, z1, z2]) rfl ⟨_, _, _, _, _, [], _, _, _, rfl, rfl, by omega, by omega, unhide HFR, Row.nil _ _, (below_sc (below_sc (below_sc (unhide HB) (by dsimp only; omega)) (by dsimp only; omega)) (by dsimp only; omega)).drew⟩
    go_wp2_with fail
    refine (pick_lit r (0 + 270 + 1 + 3 + 1 + 1 + 4 + 1 + 1) 2 _ _ (by omega) (by omega) (unhide HRd)).mono ?_
    rintro e w12 ⟨z, rfl, hz, hz2', hr, hg, hlt⟩
    obtain ⟨zN, yy, rfl, hzN, hy, hcy⟩ := lit_val (l := [-1, 8]) hlt hz (by simpa using hz2')
    (try simp only [World.size_alloc] at hcy)
    (try clear z0 z0f z1 z1f z2 z2f x0 x0f x1 x1f x2 x2f)
    replace HB := hide (below_gr (unhide HB) hg (by omega))
    replace HZ := hide ((unhide HZ).kg hg (by omega))
    replace HX := hide ((unhide HX).kg hg (by omega))
    replace HP := hide ((unhide HP).kg hg (by omega))
    replace HRd := hide hr
    clear hr hg
    clear hlt hy
    have z0 := (unhide HZ).cell 0 rfl
    have z0f := (unhide HZ).frozen 0 rfl
    have z1 := (unhide HZ).cell 1 rfl
    have z1f := (unhide HZ).frozen 1 rfl
    have z2 := (unhide HZ).cell 2 rfl
    have z2f := (unhide HZ).frozen 2 rfl
    have x0 := (unhide HX).cell 0 rfl
    have x0f := (unhide HX).frozen 0 rfl
    have x1 := (unhide HX).cell 1 rfl
    have x1f := (unhide HX).frozen 1 rfl
    have x2 := (unhide HX).cell 2 rfl
    have x2f := (unhide HX).frozen 2 rfl
    go_wp2_with fail
    go_region
    all_goals
      go_wp2_with fail
      exact bodyPost_ret (v := .tuple #[.int .i64 rt2, .int .i64 yy, rowV ra rc rd, .slice ap (0) (cp)]) (by simp [results, Try.results60, go_sem, z0, z1, z2]) rfl ⟨_, _, _, _, _, [], _, _, _, rfl, rfl, by omega, by omega, unhide HFR, Row.nil _ _, (below_sc (below_sc (below_sc (unhide HB) (by dsimp only; omega)) (by dsimp only; omega)) (by dsimp only; omega)).drew⟩
  have hpos : 0 < ps.length := List.length_pos_iff.2 hz
  obtain ⟨b, off, rfl, -⟩ := (unhide HP).1.2 hz
  have hgt : (0 : Int) < (ps.length : Int) := by omega
  clear hz
  by_cases hc1 : cp = 1
  case pos =>
    subst hc1
    go_wp2_with fail
    refine (c155 r (0 + 270 + 1 + 3 + 1 + 1 + 4 + 1) 12 _ (by omega) (by omega) (unhide HRd)).mono ?_
    rintro e w11 ⟨b3, rfl, hr, hg⟩
    (try clear z0 z0f z1 z1f z2 z2f x0 x0f x1 x1f x2 x2f)
    replace HB := hide (below_gr (unhide HB) hg (by omega))
    replace HZ := hide ((unhide HZ).kg hg (by omega))
    replace HX := hide ((unhide HX).kg hg (by omega))
    replace HP := hide ((unhide HP).kg hg (by omega))
    replace HRd := hide hr
    clear hr hg
    have z0 := (unhide HZ).cell 0 rfl
    have z0f := (unhide HZ).frozen 0 rfl
    have z1 := (unhide HZ).cell 1 rfl
    have z1f := (unhide HZ).frozen 1 rfl
    have z2 := (unhide HZ).cell 2 rfl
    have z2f := (unhide HZ).frozen 2 rfl
    have x0 := (unhide HX).cell 0 rfl
    have x0f := (unhide HX).frozen 0 rfl
    have x1 := (unhide HX).cell 1 rfl
    have x1f := (unhide HX).frozen 1 rfl
    have x2 := (unhide HX).cell 2 rfl
    have x2f := (unhide HX).frozen 2 rfl
    cases b3
    case false =>
      go_wp2_with fail
      go_region
      all_goals
        go_wp2_with fail
        exact bodyPost_ret (v := .tuple #[.int .i64 rt2, .int .i64 (tN : Int), rowV ra rc rd, .slice (some ⟨b, off, none⟩) (0) (0)]) (by simp [results, Try.results60, go_sem, z0, z1, z2]) rfl ⟨_, _, _, _, _, [], _, _, _, rfl, rfl, by omega, by omega, unhide HFR, Row.nil _ _, (below_sc (below_sc (below_sc (unhide HB) (by dsimp only; omega)) (by dsimp only; omega)) (by dsimp only; omega)).drew⟩
    go_wp2_with fail
    refine (pick_lit r (0 + 270 + 1 + 3 + 1 + 1 + 4 + 1 + 1) 2 _ _ (by omega) (by omega) (unhide HRd)).mono ?_
    rintro e w12 ⟨z, rfl, hz, hz2', hr, hg, hlt⟩
    obtain ⟨zN, yy, rfl, hzN, hy, hcy⟩ := lit_val (l := [-1, 8]) hlt hz (by simpa using hz2')
    (try simp only [World.size_alloc] at hcy)
    (try clear z0 z0f z1 z1f z2 z2f x0 x0f x1 x1f x2 x2f)
    replace HB := hide (below_gr (unhide HB) hg (by omega))
    replace HZ := hide ((unhide HZ).kg hg (by omega))
    replace HX := hide ((unhide HX).kg hg (by omega))
    replace HP := hide ((unhide HP).kg hg (by omega))
    replace HRd := hide hr
    clear hr hg
    clear hlt hy
    have z0 := (unhide HZ).cell 0 rfl
    have z0f := (unhide HZ).frozen 0 rfl
    have z1 := (unhide HZ).cell 1 rfl
    have z1f := (unhide HZ).frozen 1 rfl
    have z2 := (unhide HZ).cell 2 rfl
    have z2f := (unhide HZ).frozen 2 rfl
    have x0 := (unhide HX).cell 0 rfl
    have x0f := (unhide HX).frozen 0 rfl
    have x1 := (unhide HX).cell 1 rfl
    have x1f := (unhide HX).frozen 1 rfl
    have x2 := (unhide HX).cell 2 rfl
    have x2f := (unhide HX).frozen 2 rfl
    go_wp2_with fail
    go_region
    all_goals
      go_wp2_with fail
      exact bodyPost_ret (v := .tuple #[.int .i64 rt2, .int .i64 yy, rowV ra rc rd, .slice (some ⟨b, off, none⟩) (0) (0)]) (by simp [results, Try.results60, go_sem, z0, z1, z2]) rfl ⟨_, _, _, _, _, [], _, _, _, rfl, rfl, by omega, by omega, unhide HFR, Row.nil _ _, (below_sc (below_sc (below_sc (unhide HB) (by dsimp only; omega)) (by dsimp only; omega)) (by dsimp only; omega)).drew⟩
  replace HP := hide ((unhide HP).drop 1)
  go_wp2_with fail
  refine (c155 r (0 + 270 + 1 + 3 + 1 + 1 + 4 + 1) 12 _ (by omega) (by omega) (unhide HRd)).mono ?_
  rintro e w11 ⟨b3, rfl, hr, hg⟩
  (try clear z0 z0f z1 z1f z2 z2f x0 x0f x1 x1f x2 x2f)
  replace HB := hide (below_gr (unhide HB) hg (by omega))
  replace HZ := hide ((unhide HZ).kg hg (by omega))
  replace HX := hide ((unhide HX).kg hg (by omega))
  replace HP := hide ((unhide HP).kg hg (by omega))
  replace HRd := hide hr
  clear hr hg
  have z0 := (unhide HZ).cell 0 rfl
  have z0f := (unhide HZ).frozen 0 rfl
  have z1 := (unhide HZ).cell 1 rfl
  have z1f := (unhide HZ).frozen 1 rfl
  have z2 := (unhide HZ).cell 2 rfl
  have z2f := (unhide HZ).frozen 2 rfl
  have x0 := (unhide HX).cell 0 rfl
  have x0f := (unhide HX).frozen 0 rfl
  have x1 := (unhide HX).cell 1 rfl
  have x1f := (unhide HX).frozen 1 rfl
  have x2 := (unhide HX).cell 2 rfl
  have x2f := (unhide HX).frozen 2 rfl
  cases b3
  case false =>
    go_wp2_with fail
    go_region
    all_goals
      go_wp2_with fail
      exact bodyPost_ret (v := .tuple #[.int .i64 rt2, .int .i64 (tN : Int), rowV ra rc rd, .slice (some ⟨b, off + 1, none⟩) (ps.length - 1) (cp - 1)]) (by simp [results, Try.results60, go_sem, z0, z1, z2]) rfl ⟨_, _, _, _, _, (ps.drop 1), _, _, _, rfl, by rw [List.length_drop], by omega, by omega, unhide HFR, (((((unhide HP).oth _ (by omega)).oth _ (by omega)).oth _ (by omega)).bel (below_drew _)).1, (below_sc (below_sc (below_sc (unhide HB) (by dsimp only; omega)) (by dsimp only; omega)) (by dsimp only; omega)).drew⟩
  go_wp2_with fail
  refine (pick_lit r (0 + 270 + 1 + 3 + 1 + 1 + 4 + 1 + 1) 2 _ _ (by omega) (by omega) (unhide HRd)).mono ?_
  rintro e w12 ⟨z, rfl, hz, hz2', hr, hg, hlt⟩
  obtain ⟨zN, yy, rfl, hzN, hy, hcy⟩ := lit_val (l := [-1, 8]) hlt hz (by simpa using hz2')
  (try simp only [World.size_alloc] at hcy)
  (try clear z0 z0f z1 z1f z2 z2f x0 x0f x1 x1f x2 x2f)
  replace HB := hide (below_gr (unhide HB) hg (by omega))
  replace HZ := hide ((unhide HZ).kg hg (by omega))
  replace HX := hide ((unhide HX).kg hg (by omega))
  replace HP := hide ((unhide HP).kg hg (by omega))
  replace HRd := hide hr
  clear hr hg
  clear hlt hy
  have z0 := (unhide HZ).cell 0 rfl
  have z0f := (unhide HZ).frozen 0 rfl
  have z1 := (unhide HZ).cell 1 rfl
  have z1f := (unhide HZ).frozen 1 rfl
  have z2 := (unhide HZ).cell 2 rfl
  have z2f := (unhide HZ).frozen 2 rfl
  have x0 := (unhide HX).cell 0 rfl
  have x0f := (unhide HX).frozen 0 rfl
  have x1 := (unhide HX).cell 1 rfl
  have x1f := (unhide HX).frozen 1 rfl
  have x2 := (unhide HX).cell 2 rfl
  have x2f := (unhide HX).frozen 2 rfl
  go_wp2_with fail
  go_region
  all_goals
    go_wp2_with fail
    exact bodyPost_ret (v := .tuple #[.int .i64 rt2, .int .i64 yy, rowV ra rc rd, .slice (some ⟨b, off + 1, none⟩) (ps.length - 1) (cp - 1)]) (by simp [results, Try.results60, go_sem, z0, z1, z2]) rfl ⟨_, _, _, _, _, (ps.drop 1), _, _, _, rfl, by rw [List.length_drop], by omega, by omega, unhide HFR, (((((unhide HP).oth _ (by omega)).oth _ (by omega)).oth _ (by omega)).bel (below_drew _)).1, (below_sc (below_sc (below_sc (unhide HB) (by dsimp only; omega)) (by dsimp only; omega)) (by dsimp only; omega)).drew⟩
end Go.Proofs.Ytimaidcjccakeaa
