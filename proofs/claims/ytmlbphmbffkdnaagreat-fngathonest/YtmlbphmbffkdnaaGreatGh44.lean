/-
  Texts of the proof, what it needs of them: Dgw.
-/
import Derived.Deep.DeepCutAuto
import Derived.Test.YtmlbphmbffkdnaaGreatGh19
import Derived.Test.YtmlbphmbffkdnaaGreatGh25
import Derived.Test.YtmlbphmbffkdnaaGreatGh38
import Derived.Test.YtmlbphmbffkdnaaGreatGh39
import Derived.Test.YtmlbphmbffkdnaaGreatGh43
namespace Go.Proofs.YtmlbphmbffkdnaaGreat
open Go.RowKit
set_option linter.unusedVariables false
set_option maxRecDepth 100000

/-- a gate, a ticket, somebody, a row and a proof, drawn of a code -/
def ShowP (w : World) (e : Ending) (w' : World) : Prop :=
  ∃ (s l o : Int) (zs : List Int) (ag : Option Addr) (cg : Nat) (t wh a c : Int) (d : Bool) (ps : List Int) (ap : Option Addr) (n cap : Nat), e = .returned (.tuple #[gatV s l o (.slice ag zs.length cg), .int .i64 t, .int .i64 wh, rowV a c d, .slice ap n cap]) ∧ zs.length ≤ 9 ∧ zs.length ≤ cg ∧ (ag = none → cg = 0) ∧ Row w' ag zs ∧ (0 ≤ t ∧ t ≤ 7) ∧ FitR (a, c, d) ∧ ps.length = n ∧ n ≤ cap ∧ n ≤ 6 ∧ Row w' ap ps ∧ Below w.heap.size w w'
theorem Own.oth {w : World} {base g i : Nat} {v : Value} {ps : List Int} (h : Own w base v ps) (u : Value) (hg : g < base) : Own (w.setCell ⟨g, i, none⟩ u) base v ps := h.kg (grown_cel w g i u) hg
theorem row_pick {rs : List Tm.Rw} {j : Nat} (h8 : rs.length = 8) (hj : j < 8) (hf : ∀ r ∈ rs, FitR r) : ∃ a c d, rs[j]? = some (a, c, d) ∧ FitR (a, c, d) := by
  have hl : j < rs.length := by omega
  exact ⟨rs[j].1, rs[j].2.1, rs[j].2.2, List.getElem?_eq_getElem hl, hf _ (List.getElem_mem hl)⟩

set_option maxHeartbeats 8000000 in
theorem c5 (bs : List Int) (ao : Option Addr) (n cap : Nat) (w : World) (hn : bs.length = n) (hc : n ≤ cap) (hm : cap ≤ maxLen) (hB : Bytes w ao bs) :
    Calls Tryz.prog 5 #[.slice ao n cap] w (ShowP w) := by
  have HB := hide (Below.refl w.heap.size w)
  have HBY := hide hB
  clear hB
  replace HB := hide (below_al (o := .cells #[.int .i64 0, .int .i64 0, .int .i64 0, .slice none 0 0] 27) (unhide HB))
  replace HBY := hide ((unhide HBY).bel (below_a (.cells #[.int .i64 0, .int .i64 0, .int .i64 0, .slice none 0 0] 27)))
  have HZ := hide (box_new w [.int .i64 0, .int .i64 0, .int .i64 0, .slice none 0 0] 27 (by simp [Value.oneCell']))
  (try simp only [World.size_alloc] at HZ)
  replace HB := hide (below_al (o := .cells #[.int .i64 0, .int .i64 0, .bool false] 29) (unhide HB))
  replace HBY := hide ((unhide HBY).bel (below_a (.cells #[.int .i64 0, .int .i64 0, .bool false] 29)))
  replace HZ := hide ((unhide HZ).bel (below_a (.cells #[.int .i64 0, .int .i64 0, .bool false] 29)))
  have HQ := hide (box_new (w.alloc (.cells #[.int .i64 0, .int .i64 0, .int .i64 0, .slice none 0 0] 27)) [.int .i64 0, .int .i64 0, .bool false] 29 (by simp [Value.oneCell']))
  (try simp only [World.size_alloc] at HQ)
  have z0 := (unhide HZ).cell 0 rfl
  have z0f := (unhide HZ).frozen 0 rfl
  have z1 := (unhide HZ).cell 1 rfl
  have z1f := (unhide HZ).frozen 1 rfl
  have z2 := (unhide HZ).cell 2 rfl
  have z2f := (unhide HZ).frozen 2 rfl
  have z3 := (unhide HZ).cell 3 rfl
  have z3f := (unhide HZ).frozen 3 rfl
  have q0 := (unhide HQ).cell 0 rfl
  have q0f := (unhide HQ).frozen 0 rfl
  have q1 := (unhide HQ).cell 1 rfl
  have q1f := (unhide HQ).frozen 1 rfl
  have q2 := (unhide HQ).cell 2 rfl
  have q2f := (unhide HQ).frozen 2 rfl
  go_enter Tryz.func5, Tryz.ntmps5
  go_wp2_with fail
  refine (c23 bs ao n cap _ hn hc hm (unhide HBY)).mono ?_
  rintro e w1 ⟨rfl, hr, hb, hl1⟩
  (try clear z0 z0f z1 z1f z2 z2f z3 z3f q0 q0f q1 q1f q2 q2f)
  clear HBY
  replace HB := hide (below_tr (unhide HB) hb)
  replace HZ := hide ((unhide HZ).bel hb)
  replace HQ := hide ((unhide HQ).bel hb)
  (try simp only [World.size_alloc] at hr hl1)
  (try simp only [World.size_alloc])
  generalize hrr : w.heap.size + 1 + 1 = r at *
  have HRd := hide hr
  have HRR := hide hrr
  have hwr : w.heap.size ≤ r := by omega
  have hne0 : r ≠ w.heap.size := by omega
  have hne1 : r ≠ w.heap.size + 1 := by omega
  clear hr hb hrr
  have z0 := (unhide HZ).cell 0 rfl
  have z0f := (unhide HZ).frozen 0 rfl
  have z1 := (unhide HZ).cell 1 rfl
  have z1f := (unhide HZ).frozen 1 rfl
  have z2 := (unhide HZ).cell 2 rfl
  have z2f := (unhide HZ).frozen 2 rfl
  have z3 := (unhide HZ).cell 3 rfl
  have z3f := (unhide HZ).frozen 3 rfl
  have q0 := (unhide HQ).cell 0 rfl
  have q0f := (unhide HQ).frozen 0 rfl
  have q1 := (unhide HQ).cell 1 rfl
  have q1f := (unhide HQ).frozen 1 rfl
  have q2 := (unhide HQ).cell 2 rfl
  have q2f := (unhide HQ).frozen 2 rfl
  go_wp2_with fail
  refine (c24 r (0) 99999 _ (by omega) (by omega) (unhide HRd)).mono ?_
  rintro e w2 ⟨v, es, rfl, hesl, ho, hr, hg⟩
  obtain ⟨ales, caples, rfl, hcles, -, -⟩ := ho.row
  have hbasees : r < w1.heap.size := (unhide HRd).lt
  (try clear z0 z0f z1 z1f z2 z2f z3 z3f q0 q0f q1 q1f q2 q2f)
  replace HB := hide (below_gr (unhide HB) hg (by omega))
  replace HZ := hide ((unhide HZ).kg hg (by omega))
  replace HQ := hide ((unhide HQ).kg hg (by omega))
  replace HRd := hide hr
  clear hr hg
  have HO := hide ho
  clear ho
  have z0 := (unhide HZ).cell 0 rfl
  have z0f := (unhide HZ).frozen 0 rfl
  have z1 := (unhide HZ).cell 1 rfl
  have z1f := (unhide HZ).frozen 1 rfl
  have z2 := (unhide HZ).cell 2 rfl
  have z2f := (unhide HZ).frozen 2 rfl
  have z3 := (unhide HZ).cell 3 rfl
  have z3f := (unhide HZ).frozen 3 rfl
  have q0 := (unhide HQ).cell 0 rfl
  have q0f := (unhide HQ).frozen 0 rfl
  have q1 := (unhide HQ).cell 1 rfl
  have q1f := (unhide HQ).frozen 1 rfl
  have q2 := (unhide HQ).cell 2 rfl
  have q2f := (unhide HQ).frozen 2 rfl
  go_wp2_with fail
  refine (c25 r (0 + 260) 20 es ales es.length caples w1.heap.size _ (by omega) (by omega) (unhide HRd) rfl hesl hcles hbasees (unhide HO)).mono ?_
  rintro e w3 ⟨s, l, o, v, zs, rfl, hzl, hov, hr, hg⟩
  obtain ⟨ag, cg, rfl, hcg, hzg, hrg, hbg⟩ := hov.any
  have hWp : r < w2.heap.size := (unhide HRd).lt
  have HL : Hid (RowA _ w2.heap.size ag zs) := ⟨hrg, fun a ha => (hbg a ha).1⟩
  have hlY0 := fun a ha => (hbg a ha).2
  clear hov hrg hbg
  (try clear z0 z0f z1 z1f z2 z2f z3 z3f q0 q0f q1 q1f q2 q2f)
  replace HB := hide (below_gr (unhide HB) hg (by omega))
  replace HZ := hide ((unhide HZ).kg hg (by omega))
  replace HQ := hide ((unhide HQ).kg hg (by omega))
  replace HO := hide ((unhide HO).kg hg (by omega))
  replace HRd := hide hr
  clear hr hg
  have z0 := (unhide HZ).cell 0 rfl
  have z0f := (unhide HZ).frozen 0 rfl
  have z1 := (unhide HZ).cell 1 rfl
  have z1f := (unhide HZ).frozen 1 rfl
  have z2 := (unhide HZ).cell 2 rfl
  have z2f := (unhide HZ).frozen 2 rfl
  have z3 := (unhide HZ).cell 3 rfl
  have z3f := (unhide HZ).frozen 3 rfl
  have q0 := (unhide HQ).cell 0 rfl
  have q0f := (unhide HQ).frozen 0 rfl
  have q1 := (unhide HQ).cell 1 rfl
  have q1f := (unhide HQ).frozen 1 rfl
  have q2 := (unhide HQ).cell 2 rfl
  have q2f := (unhide HQ).frozen 2 rfl
  (try clear z0 z0f z1 z1f z2 z2f z3 z3f q0 q0f q1 q1f q2 q2f)
  have hzHX : r < w3.heap.size := (unhide HRd).lt
  replace HB := hide (below_al (o := .cells #[.int .i64 s, .int .i64 l, .int .i64 o, .slice ag zs.length cg] 27) (unhide HB))
  replace HRd := hide ((unhide HRd).alloc (.cells #[.int .i64 s, .int .i64 l, .int .i64 o, .slice ag zs.length cg] 27))
  replace HZ := hide ((unhide HZ).bel (below_a (.cells #[.int .i64 s, .int .i64 l, .int .i64 o, .slice ag zs.length cg] 27)))
  replace HQ := hide ((unhide HQ).bel (below_a (.cells #[.int .i64 s, .int .i64 l, .int .i64 o, .slice ag zs.length cg] 27)))
  replace HO := hide ((unhide HO).bel (below_a (.cells #[.int .i64 s, .int .i64 l, .int .i64 o, .slice ag zs.length cg] 27)))
  replace HL := hide ((unhide HL).bel (below_a (.cells #[.int .i64 s, .int .i64 l, .int .i64 o, .slice ag zs.length cg] 27)))
  have HX := hide (box_new w3 [.int .i64 s, .int .i64 l, .int .i64 o, .slice ag zs.length cg] 27 (by simp [Value.oneCell']))
  have z0 := (unhide HZ).cell 0 rfl
  have z0f := (unhide HZ).frozen 0 rfl
  have z1 := (unhide HZ).cell 1 rfl
  have z1f := (unhide HZ).frozen 1 rfl
  have z2 := (unhide HZ).cell 2 rfl
  have z2f := (unhide HZ).frozen 2 rfl
  have z3 := (unhide HZ).cell 3 rfl
  have z3f := (unhide HZ).frozen 3 rfl
  have q0 := (unhide HQ).cell 0 rfl
  have q0f := (unhide HQ).frozen 0 rfl
  have q1 := (unhide HQ).cell 1 rfl
  have q1f := (unhide HQ).frozen 1 rfl
  have q2 := (unhide HQ).cell 2 rfl
  have q2f := (unhide HQ).frozen 2 rfl
  have x0 := (unhide HX).cell 0 rfl
  have x0f := (unhide HX).frozen 0 rfl
  have x1 := (unhide HX).cell 1 rfl
  have x1f := (unhide HX).frozen 1 rfl
  have x2 := (unhide HX).cell 2 rfl
  have x2f := (unhide HX).frozen 2 rfl
  have x3 := (unhide HX).cell 3 rfl
  have x3f := (unhide HX).frozen 3 rfl
  have hx3 := (unhide HX).lt
  have hz3 := (unhide HZ).lt
  have hq3 := (unhide HQ).lt
  go_wp2_with fail
  refine (c26 r (0 + 260 + 30) 8 _ (by omega) (unhide HRd)).mono ?_
  rintro e w4 ⟨t, rfl, ta, tb, hr, hg⟩
  have tb := tb (by omega)
  (try clear z0 z0f z1 z1f z2 z2f z3 z3f q0 q0f q1 q1f q2 q2f x0 x0f x1 x1f x2 x2f x3 x3f)
  replace HB := hide (below_gr (unhide HB) hg (by omega))
  replace HZ := hide ((unhide HZ).kg hg (by omega))
  replace HQ := hide ((unhide HQ).kg hg (by omega))
  replace HO := hide ((unhide HO).kg hg (by omega))
  replace HL := hide ((unhide HL).kg hg (by omega))
  replace HX := hide ((unhide HX).kg hg (by omega))
  replace HRd := hide hr
  clear hr hg
  have z0 := (unhide HZ).cell 0 rfl
  have z0f := (unhide HZ).frozen 0 rfl
  have z1 := (unhide HZ).cell 1 rfl
  have z1f := (unhide HZ).frozen 1 rfl
  have z2 := (unhide HZ).cell 2 rfl
  have z2f := (unhide HZ).frozen 2 rfl
  have z3 := (unhide HZ).cell 3 rfl
  have z3f := (unhide HZ).frozen 3 rfl
  have q0 := (unhide HQ).cell 0 rfl
  have q0f := (unhide HQ).frozen 0 rfl
  have q1 := (unhide HQ).cell 1 rfl
  have q1f := (unhide HQ).frozen 1 rfl
  have q2 := (unhide HQ).cell 2 rfl
  have q2f := (unhide HQ).frozen 2 rfl
  have x0 := (unhide HX).cell 0 rfl
  have x0f := (unhide HX).frozen 0 rfl
  have x1 := (unhide HX).cell 1 rfl
  have x1f := (unhide HX).frozen 1 rfl
  have x2 := (unhide HX).cell 2 rfl
  have x2f := (unhide HX).frozen 2 rfl
  have x3 := (unhide HX).cell 3 rfl
  have x3f := (unhide HX).frozen 3 rfl
  obtain ⟨tN, rfl⟩ := Int.eq_ofNat_of_zero_le ta
  have htN : tN < 8 := by omega
  have z0 := (unhide HZ).cell 0 rfl
  have z0f := (unhide HZ).frozen 0 rfl
  have z1 := (unhide HZ).cell 1 rfl
  have z1f := (unhide HZ).frozen 1 rfl
  have z2 := (unhide HZ).cell 2 rfl
  have z2f := (unhide HZ).frozen 2 rfl
  have z3 := (unhide HZ).cell 3 rfl
  have z3f := (unhide HZ).frozen 3 rfl
  have q0 := (unhide HQ).cell 0 rfl
  have q0f := (unhide HQ).frozen 0 rfl
  have q1 := (unhide HQ).cell 1 rfl
  have q1f := (unhide HQ).frozen 1 rfl
  have q2 := (unhide HQ).cell 2 rfl
  have q2f := (unhide HQ).frozen 2 rfl
  have x0 := (unhide HX).cell 0 rfl
  have x0f := (unhide HX).frozen 0 rfl
  have x1 := (unhide HX).cell 1 rfl
  have x1f := (unhide HX).frozen 1 rfl
  have x2 := (unhide HX).cell 2 rfl
  have x2f := (unhide HX).frozen 2 rfl
  have x3 := (unhide HX).cell 3 rfl
  have x3f := (unhide HX).frozen 3 rfl
  go_upto_region 6 with fail
  go_cut [40] (fun s40 wx => ∃ b : Bool, s40 = .bool b ∧ (b = false → 0 ≤ s ∧ s ≤ (es.length : Int)) ∧ Below w.heap.size w wx ∧ RowA wx w2.heap.size ag zs ∧ Box wx w3.heap.size [.int .i64 s, .int .i64 l, .int .i64 o, .slice ag zs.length cg] ∧ Box wx w.heap.size [.int .i64 0, .int .i64 0, .int .i64 0, .slice none 0 0] ∧ Box wx (w.heap.size + 1) [.int .i64 0, .int .i64 0, .bool false] ∧ EOwn wx w1.heap.size (.slice ales es.length caples) es ∧ Rd wx r (0 + 260 + 30 + 1 + 1) ∧ w3.heap.size < wx.heap.size)
  case first =>
    by_cases h1 : s < 0
    case pos =>
      go_wp2_with fail
      (try clear z0 z0f z1 z1f z2 z2f z3 z3f q0 q0f q1 q1f q2 q2f x0 x0f x1 x1f x2 x2f x3 x3f)
      go_meet
      exact ⟨true, rfl, (fun h => by cases h), unhide HB, unhide HL, unhide HX, unhide HZ, unhide HQ, unhide HO, (unhide HRd).mono (by omega), (unhide HX).lt⟩
    by_cases h2 : (es.length : Int) < s
    case pos =>
      go_wp2_with fail
      (try clear z0 z0f z1 z1f z2 z2f z3 z3f q0 q0f q1 q1f q2 q2f x0 x0f x1 x1f x2 x2f x3 x3f)
      go_meet
      exact ⟨true, rfl, (fun h => by cases h), unhide HB, unhide HL, unhide HX, unhide HZ, unhide HQ, unhide HO, (unhide HRd).mono (by omega), (unhide HX).lt⟩
    have h3 : 0 ≤ s ∧ s ≤ (es.length : Int) := by omega
    go_wp2_with fail
    refine (c27 r (0 + 260 + 30 + 1) 6 _ (by omega) (by omega) (unhide HRd)).mono ?_
    rintro e w5 ⟨b1, rfl, hr, hg⟩
    (try clear z0 z0f z1 z1f z2 z2f z3 z3f q0 q0f q1 q1f q2 q2f x0 x0f x1 x1f x2 x2f x3 x3f)
    replace HB := hide (below_gr (unhide HB) hg (by omega))
    replace HZ := hide ((unhide HZ).kg hg (by omega))
    replace HQ := hide ((unhide HQ).kg hg (by omega))
    replace HO := hide ((unhide HO).kg hg (by omega))
    replace HL := hide ((unhide HL).kg hg (by omega))
    replace HX := hide ((unhide HX).kg hg (by omega))
    replace HRd := hide hr
    clear hr hg
    have z0 := (unhide HZ).cell 0 rfl
    have z0f := (unhide HZ).frozen 0 rfl
    have z1 := (unhide HZ).cell 1 rfl
    have z1f := (unhide HZ).frozen 1 rfl
    have z2 := (unhide HZ).cell 2 rfl
    have z2f := (unhide HZ).frozen 2 rfl
    have z3 := (unhide HZ).cell 3 rfl
    have z3f := (unhide HZ).frozen 3 rfl
    have q0 := (unhide HQ).cell 0 rfl
    have q0f := (unhide HQ).frozen 0 rfl
    have q1 := (unhide HQ).cell 1 rfl
    have q1f := (unhide HQ).frozen 1 rfl
    have q2 := (unhide HQ).cell 2 rfl
    have q2f := (unhide HQ).frozen 2 rfl
    have x0 := (unhide HX).cell 0 rfl
    have x0f := (unhide HX).frozen 0 rfl
    have x1 := (unhide HX).cell 1 rfl
    have x1f := (unhide HX).frozen 1 rfl
    have x2 := (unhide HX).cell 2 rfl
    have x2f := (unhide HX).frozen 2 rfl
    have x3 := (unhide HX).cell 3 rfl
    have x3f := (unhide HX).frozen 3 rfl
    go_wp2_with fail
    (try clear z0 z0f z1 z1f z2 z2f z3 z3f q0 q0f q1 q1f q2 q2f x0 x0f x1 x1f x2 x2f x3 x3f)
    go_meet
    exact ⟨b1, rfl, (fun _ => h3), unhide HB, unhide HL, unhide HX, unhide HZ, unhide HQ, unhide HO, (unhide HRd).mono (by omega), (unhide HX).lt⟩
  (try clear z0 z0f z1 z1f z2 z2f z3 z3f q0 q0f q1 q1f q2 q2f x0 x0f x1 x1f x2 x2f x3 x3f)
  case rest =>
    obtain ⟨b, rfl, hbs, fHB, fHL, fHX, fHZ, fHQ, fHO, fRd, hszW⟩ := hcut
    obtain ⟨W1, hWc⟩ : ∃ x, x = wc := ⟨_, rfl⟩
    subst hWc
    clear HZ HQ HO HL HX HB HRd
    have HB := hide fHB
    have HL := hide fHL
    have HX := hide fHX
    have HZ := hide fHZ
    have HQ := hide fHQ
    have HO := hide fHO
    have HRd := hide fRd
    clear fHB fHL fHX fHZ fHQ fHO fRd
    have z0 := (unhide HZ).cell 0 rfl
    have z0f := (unhide HZ).frozen 0 rfl
    have z1 := (unhide HZ).cell 1 rfl
    have z1f := (unhide HZ).frozen 1 rfl
    have z2 := (unhide HZ).cell 2 rfl
    have z2f := (unhide HZ).frozen 2 rfl
    have z3 := (unhide HZ).cell 3 rfl
    have z3f := (unhide HZ).frozen 3 rfl
    have q0 := (unhide HQ).cell 0 rfl
    have q0f := (unhide HQ).frozen 0 rfl
    have q1 := (unhide HQ).cell 1 rfl
    have q1f := (unhide HQ).frozen 1 rfl
    have q2 := (unhide HQ).cell 2 rfl
    have q2f := (unhide HQ).frozen 2 rfl
    have x0 := (unhide HX).cell 0 rfl
    have x0f := (unhide HX).frozen 0 rfl
    have x1 := (unhide HX).cell 1 rfl
    have x1f := (unhide HX).frozen 1 rfl
    have x2 := (unhide HX).cell 2 rfl
    have x2f := (unhide HX).frozen 2 rfl
    have x3 := (unhide HX).cell 3 rfl
    have x3f := (unhide HX).frozen 3 rfl
    go_upto_if 40 with fail
    go_cut [11] (fun s11 wx => ∃ q : Nat, q ≤ es.length ∧ s11 = .int .i64 (q : Int) ∧ Below w.heap.size w wx ∧ RowA wx w2.heap.size ag zs ∧ Box wx w3.heap.size [.int .i64 s, .int .i64 l, .int .i64 o, .slice ag zs.length cg] ∧ Box wx w.heap.size [.int .i64 0, .int .i64 0, .int .i64 0, .slice none 0 0] ∧ Box wx (w.heap.size + 1) [.int .i64 0, .int .i64 0, .bool false] ∧ EOwn wx w1.heap.size (.slice ales es.length caples) es ∧ Rd wx r (0 + 260 + 30 + 1 + 1) ∧ w3.heap.size < wx.heap.size)
    case first =>
      cases b
      case true =>
        go_wp2_with fail
        (try clear z0 z0f z1 z1f z2 z2f z3 z3f q0 q0f q1 q1f q2 q2f x0 x0f x1 x1f x2 x2f x3 x3f)
        go_meet
        exact ⟨es.length, Nat.le_refl _, rfl, unhide HB, unhide HL, unhide HX, unhide HZ, unhide HQ, unhide HO, (unhide HRd).mono (by omega), (unhide HX).lt⟩
      obtain ⟨h3, h4⟩ := hbs rfl
      go_wp2_with fail
      (try clear z0 z0f z1 z1f z2 z2f z3 z3f q0 q0f q1 q1f q2 q2f x0 x0f x1 x1f x2 x2f x3 x3f)
      go_meet
      exact ⟨s.toNat, by omega, by rw [Int.toNat_of_nonneg h3], unhide HB, unhide HL, unhide HX, unhide HZ, unhide HQ, unhide HO, (unhide HRd).mono (by omega), (unhide HX).lt⟩
    (try clear z0 z0f z1 z1f z2 z2f z3 z3f q0 q0f q1 q1f q2 q2f x0 x0f x1 x1f x2 x2f x3 x3f)
    case rest =>
      obtain ⟨q, hq, rfl, fHB, fHL, fHX, fHZ, fHQ, fHO, fRd, hszW⟩ := hcut
      obtain ⟨W2, hWc⟩ : ∃ x, x = wc := ⟨_, rfl⟩
      subst hWc
      clear HL HX HZ HQ HO HB HRd
      have HB := hide fHB
      have HL := hide fHL
      have HX := hide fHX
      have HZ := hide fHZ
      have HQ := hide fHQ
      have HO := hide fHO
      have HRd := hide fRd
      clear fHB fHL fHX fHZ fHQ fHO fRd
      have hqc : q ≤ caples := Nat.le_trans hq hcles
      have HQT := hide (show (es.take q).length = q from by rw [List.length_take]; omega)
      generalize hrs : foldRows (es.take q) = rs at *
      generalize hfb : foldIs (es.take q) = fb at *
      have HF8 : Hid (fb = true → rs.length = 8) := fun h => by rw [← hrs]; exact foldRows_8 (hfb.trans h)
      have HRS := hide hrs
      have HFB := hide hfb
      clear hrs hfb
      have z0 := (unhide HZ).cell 0 rfl
      have z0f := (unhide HZ).frozen 0 rfl
      have z1 := (unhide HZ).cell 1 rfl
      have z1f := (unhide HZ).frozen 1 rfl
      have z2 := (unhide HZ).cell 2 rfl
      have z2f := (unhide HZ).frozen 2 rfl
      have z3 := (unhide HZ).cell 3 rfl
      have z3f := (unhide HZ).frozen 3 rfl
      have q0 := (unhide HQ).cell 0 rfl
      have q0f := (unhide HQ).frozen 0 rfl
      have q1 := (unhide HQ).cell 1 rfl
      have q1f := (unhide HQ).frozen 1 rfl
      have q2 := (unhide HQ).cell 2 rfl
      have q2f := (unhide HQ).frozen 2 rfl
      have x0 := (unhide HX).cell 0 rfl
      have x0f := (unhide HX).frozen 0 rfl
      have x1 := (unhide HX).cell 1 rfl
      have x1f := (unhide HX).frozen 1 rfl
      have x2 := (unhide HX).cell 2 rfl
      have x2f := (unhide HX).frozen 2 rfl
      have x3 := (unhide HX).cell 3 rfl
      have x3f := (unhide HX).frozen 3 rfl
      go_wp2_with fail
      refine (c28 (es.take q) ales q caples _ (unhide HQT) (by omega) (((unhide HO).rd rfl).take q)).mono ?_
      rintro e w21 ⟨v, rfl, ho, hb⟩
      rw [unhide HRS] at ho
      rw [unhide HFB]
      clear HRS HFB
      (try clear z0 z0f z1 z1f z2 z2f z3 z3f q0 q0f q1 q1f q2 q2f x0 x0f x1 x1f x2 x2f x3 x3f)
      replace HB := hide (below_tr (unhide HB) hb)
      replace HRd := hide ((unhide HRd).bel hb)
      replace HL := hide ((unhide HL).bel hb)
      replace HX := hide ((unhide HX).bel hb)
      replace HZ := hide ((unhide HZ).bel hb)
      replace HQ := hide ((unhide HQ).bel hb)
      clear HO
      have HW := hide (ho)
      clear hb ho
      have z0 := (unhide HZ).cell 0 rfl
      have z0f := (unhide HZ).frozen 0 rfl
      have z1 := (unhide HZ).cell 1 rfl
      have z1f := (unhide HZ).frozen 1 rfl
      have z2 := (unhide HZ).cell 2 rfl
      have z2f := (unhide HZ).frozen 2 rfl
      have z3 := (unhide HZ).cell 3 rfl
      have z3f := (unhide HZ).frozen 3 rfl
      have q0 := (unhide HQ).cell 0 rfl
      have q0f := (unhide HQ).frozen 0 rfl
      have q1 := (unhide HQ).cell 1 rfl
      have q1f := (unhide HQ).frozen 1 rfl
      have q2 := (unhide HQ).cell 2 rfl
      have q2f := (unhide HQ).frozen 2 rfl
      have x0 := (unhide HX).cell 0 rfl
      have x0f := (unhide HX).frozen 0 rfl
      have x1 := (unhide HX).cell 1 rfl
      have x1f := (unhide HX).frozen 1 rfl
      have x2 := (unhide HX).cell 2 rfl
      have x2f := (unhide HX).frozen 2 rfl
      have x3 := (unhide HX).cell 3 rfl
      have x3f := (unhide HX).frozen 3 rfl
      have hw1f : w3.heap.size ≤ W2.heap.size := by omega
      go_upto_if 51 with fail
      go_cut [12] (fun s12 wx => ∃ (rs : List Tm.Rw) (ar : Option Addr) (cr : Nat), rs.length = 8 ∧ 8 ≤ cr ∧ s12 = .slice ar 8 cr ∧ (∀ x ∈ rs, FitR x) ∧ RRowA wx w3.heap.size ar rs ∧ Below w.heap.size w wx ∧ RowA wx w2.heap.size ag zs ∧ Box wx w3.heap.size [.int .i64 s, .int .i64 l, .int .i64 o, .slice ag zs.length cg] ∧ Box wx w.heap.size [.int .i64 0, .int .i64 0, .int .i64 0, .slice none 0 0] ∧ Box wx (w.heap.size + 1) [.int .i64 0, .int .i64 0, .bool false] ∧ Rd wx r (0 + 260 + 30 + 1 + 1) ∧ w3.heap.size < wx.heap.size)
      case first =>
        cases fb
        case false =>
          go_wp2_with fail
          refine (c29 _).mono ?_
          rintro e w22 ⟨v, rfl, ho, hb⟩
          have hszz := (unhide HX).lt
          (try clear z0 z0f z1 z1f z2 z2f z3 z3f q0 q0f q1 q1f q2 q2f x0 x0f x1 x1f x2 x2f x3 x3f)
          replace HB := hide (below_tr (unhide HB) hb)
          replace HRd := hide ((unhide HRd).bel hb)
          replace HL := hide ((unhide HL).bel hb)
          replace HX := hide ((unhide HX).bel hb)
          replace HZ := hide ((unhide HZ).bel hb)
          replace HQ := hide ((unhide HQ).bel hb)
          clear HW
          have HV := hide (ho)
          clear hb ho
          have z0 := (unhide HZ).cell 0 rfl
          have z0f := (unhide HZ).frozen 0 rfl
          have z1 := (unhide HZ).cell 1 rfl
          have z1f := (unhide HZ).frozen 1 rfl
          have z2 := (unhide HZ).cell 2 rfl
          have z2f := (unhide HZ).frozen 2 rfl
          have z3 := (unhide HZ).cell 3 rfl
          have z3f := (unhide HZ).frozen 3 rfl
          have q0 := (unhide HQ).cell 0 rfl
          have q0f := (unhide HQ).frozen 0 rfl
          have q1 := (unhide HQ).cell 1 rfl
          have q1f := (unhide HQ).frozen 1 rfl
          have q2 := (unhide HQ).cell 2 rfl
          have q2f := (unhide HQ).frozen 2 rfl
          have x0 := (unhide HX).cell 0 rfl
          have x0f := (unhide HX).frozen 0 rfl
          have x1 := (unhide HX).cell 1 rfl
          have x1f := (unhide HX).frozen 1 rfl
          have x2 := (unhide HX).cell 2 rfl
          have x2f := (unhide HX).frozen 2 rfl
          have x3 := (unhide HX).cell 3 rfl
          have x3f := (unhide HX).frozen 3 rfl
          go_wp2_with fail
          have hro := unhide HV
          obtain ⟨ar, cr, hev, hcr, hrr, hbl⟩ := hro.row
          have h8 : Tm.none8.length = 8 := by simp [Tm.none8]
          rw [h8] at hcr hev
          subst hev
          (try clear z0 z0f z1 z1f z2 z2f z3 z3f q0 q0f q1 q1f q2 q2f x0 x0f x1 x1f x2 x2f x3 x3f)
          go_meet
          exact ⟨_, ar, cr, h8, hcr, rfl, hro.1, ⟨hrr, fun a ha => by have := (hbl a ha).1; omega⟩, unhide HB, unhide HL, unhide HX, unhide HZ, unhide HQ, (unhide HRd).mono (by omega), (unhide HX).lt⟩
        have hro := unhide HW
        obtain ⟨ar, cr, hev, hcr, hrr, hbl⟩ := hro.row
        have h8 := unhide HF8 rfl
        rw [h8] at hcr hev
        subst hev
        go_wp2_with fail
        (try clear z0 z0f z1 z1f z2 z2f z3 z3f q0 q0f q1 q1f q2 q2f x0 x0f x1 x1f x2 x2f x3 x3f)
        go_meet
        exact ⟨rs, ar, cr, h8, hcr, rfl, hro.1, ⟨hrr, fun a ha => by have := (hbl a ha).1; omega⟩, unhide HB, unhide HL, unhide HX, unhide HZ, unhide HQ, (unhide HRd).mono (by omega), (unhide HX).lt⟩
      (try clear z0 z0f z1 z1f z2 z2f z3 z3f q0 q0f q1 q1f q2 q2f x0 x0f x1 x1f x2 x2f x3 x3f)
      case rest =>
        obtain ⟨rs2, ar, cr, h8, h8c, rfl, hfit, hrow, fHB, fHL, fHX, fHZ, fHQ, fRd, hszW⟩ := hcut
        obtain ⟨W3, hWc⟩ : ∃ x, x = wc := ⟨_, rfl⟩
        subst hWc
        clear HL HX HZ HQ HW HB HRd
        have HB := hide fHB
        have HL := hide fHL
        have HX := hide fHX
        have HZ := hide fHZ
        have HQ := hide fHQ
        have HRd := hide fRd
        clear fHB fHL fHX fHZ fHQ fRd
        have HR8 := hide hrow
        clear hrow
        obtain ⟨a, c, d, hj, hfr⟩ := row_pick h8 htN hfit
        obtain ⟨br, offr, rfl, -⟩ := (unhide HR8).1.2 (by intro e; rw [e] at h8; simp at h8)
        obtain ⟨e0, e1, e2⟩ := (unhide HR8).1.at hj
        have HFR := hide hfr
        have hbr := World.block_lt_of_cell? _ _ e0
        dsimp only at hbr
        have hti : (tN : Int) < 8 := by omega
        clear hfr hj hfit
        have z0 := (unhide HZ).cell 0 rfl
        have z0f := (unhide HZ).frozen 0 rfl
        have z1 := (unhide HZ).cell 1 rfl
        have z1f := (unhide HZ).frozen 1 rfl
        have z2 := (unhide HZ).cell 2 rfl
        have z2f := (unhide HZ).frozen 2 rfl
        have z3 := (unhide HZ).cell 3 rfl
        have z3f := (unhide HZ).frozen 3 rfl
        have q0 := (unhide HQ).cell 0 rfl
        have q0f := (unhide HQ).frozen 0 rfl
        have q1 := (unhide HQ).cell 1 rfl
        have q1f := (unhide HQ).frozen 1 rfl
        have q2 := (unhide HQ).cell 2 rfl
        have q2f := (unhide HQ).frozen 2 rfl
        have x0 := (unhide HX).cell 0 rfl
        have x0f := (unhide HX).frozen 0 rfl
        have x1 := (unhide HX).cell 1 rfl
        have x1f := (unhide HX).frozen 1 rfl
        have x2 := (unhide HX).cell 2 rfl
        have x2f := (unhide HX).frozen 2 rfl
        have x3 := (unhide HX).cell 3 rfl
        have x3f := (unhide HX).frozen 3 rfl
        go_wp2_with fail
        clear e0 e1 e2
        (try clear z0 z0f z1 z1f z2 z2f z3 z3f q0 q0f q1 q1f q2 q2f x0 x0f x1 x1f x2 x2f x3 x3f)
        (try clear z0 z0f z1 z1f z2 z2f z3 z3f q0 q0f q1 q1f q2 q2f x0 x0f x1 x1f x2 x2f x3 x3f)
        have hzHT : r < W3.heap.size := (unhide HRd).lt
        replace HB := hide (below_al (o := .cells #[.int .i64 a, .int .i64 c, .bool d] 29) (unhide HB))
        replace HRd := hide ((unhide HRd).alloc (.cells #[.int .i64 a, .int .i64 c, .bool d] 29))
        replace HL := hide ((unhide HL).bel (below_a (.cells #[.int .i64 a, .int .i64 c, .bool d] 29)))
        replace HX := hide ((unhide HX).bel (below_a (.cells #[.int .i64 a, .int .i64 c, .bool d] 29)))
        replace HZ := hide ((unhide HZ).bel (below_a (.cells #[.int .i64 a, .int .i64 c, .bool d] 29)))
        replace HQ := hide ((unhide HQ).bel (below_a (.cells #[.int .i64 a, .int .i64 c, .bool d] 29)))
        replace HR8 := hide ((unhide HR8).bel (below_a (.cells #[.int .i64 a, .int .i64 c, .bool d] 29)))
        have HT := hide (box_new W3 [.int .i64 a, .int .i64 c, .bool d] 29 (by simp [Value.oneCell']))
        have z0 := (unhide HZ).cell 0 rfl
        have z0f := (unhide HZ).frozen 0 rfl
        have z1 := (unhide HZ).cell 1 rfl
        have z1f := (unhide HZ).frozen 1 rfl
        have z2 := (unhide HZ).cell 2 rfl
        have z2f := (unhide HZ).frozen 2 rfl
        have z3 := (unhide HZ).cell 3 rfl
        have z3f := (unhide HZ).frozen 3 rfl
        have q0 := (unhide HQ).cell 0 rfl
        have q0f := (unhide HQ).frozen 0 rfl
        have q1 := (unhide HQ).cell 1 rfl
        have q1f := (unhide HQ).frozen 1 rfl
        have q2 := (unhide HQ).cell 2 rfl
        have q2f := (unhide HQ).frozen 2 rfl
        have x0 := (unhide HX).cell 0 rfl
        have x0f := (unhide HX).frozen 0 rfl
        have x1 := (unhide HX).cell 1 rfl
        have x1f := (unhide HX).frozen 1 rfl
        have x2 := (unhide HX).cell 2 rfl
        have x2f := (unhide HX).frozen 2 rfl
        have x3 := (unhide HX).cell 3 rfl
        have x3f := (unhide HX).frozen 3 rfl
        have t0 := (unhide HT).cell 0 rfl
        have t0f := (unhide HT).frozen 0 rfl
        have t1 := (unhide HT).cell 1 rfl
        have t1f := (unhide HT).frozen 1 rfl
        have t2 := (unhide HT).cell 2 rfl
        have t2f := (unhide HT).frozen 2 rfl
        have hGT : w3.heap.size < W3.heap.size := hszW
        have hgt := (unhide HT).lt
        refine (c27 r (0 + 260 + 30 + 1 + 1) 4 _ (by omega) (by omega) (unhide HRd)).mono ?_
        rintro e w22 ⟨b2, rfl, hr, hg⟩
        (try clear z0 z0f z1 z1f z2 z2f z3 z3f q0 q0f q1 q1f q2 q2f x0 x0f x1 x1f x2 x2f x3 x3f t0 t0f t1 t1f t2 t2f)
        replace HB := hide (below_gr (unhide HB) hg (by omega))
        replace HL := hide ((unhide HL).kg hg (by omega))
        replace HX := hide ((unhide HX).kg hg (by omega))
        replace HZ := hide ((unhide HZ).kg hg (by omega))
        replace HQ := hide ((unhide HQ).kg hg (by omega))
        replace HR8 := hide ((unhide HR8).kg hg (by omega))
        replace HT := hide ((unhide HT).kg hg (by omega))
        replace HRd := hide hr
        clear hr hg
        have z0 := (unhide HZ).cell 0 rfl
        have z0f := (unhide HZ).frozen 0 rfl
        have z1 := (unhide HZ).cell 1 rfl
        have z1f := (unhide HZ).frozen 1 rfl
        have z2 := (unhide HZ).cell 2 rfl
        have z2f := (unhide HZ).frozen 2 rfl
        have z3 := (unhide HZ).cell 3 rfl
        have z3f := (unhide HZ).frozen 3 rfl
        have q0 := (unhide HQ).cell 0 rfl
        have q0f := (unhide HQ).frozen 0 rfl
        have q1 := (unhide HQ).cell 1 rfl
        have q1f := (unhide HQ).frozen 1 rfl
        have q2 := (unhide HQ).cell 2 rfl
        have q2f := (unhide HQ).frozen 2 rfl
        have x0 := (unhide HX).cell 0 rfl
        have x0f := (unhide HX).frozen 0 rfl
        have x1 := (unhide HX).cell 1 rfl
        have x1f := (unhide HX).frozen 1 rfl
        have x2 := (unhide HX).cell 2 rfl
        have x2f := (unhide HX).frozen 2 rfl
        have x3 := (unhide HX).cell 3 rfl
        have x3f := (unhide HX).frozen 3 rfl
        have t0 := (unhide HT).cell 0 rfl
        have t0f := (unhide HT).frozen 0 rfl
        have t1 := (unhide HT).cell 1 rfl
        have t1f := (unhide HT).frozen 1 rfl
        have t2 := (unhide HT).cell 2 rfl
        have t2f := (unhide HT).frozen 2 rfl
        go_upto_if 60 with fail
        go_cut [15] (fun s15 wx => ∃ wh : Int, s15 = .int .i64 wh ∧ Below w.heap.size w wx ∧ RowA wx w2.heap.size ag zs ∧ Box wx w3.heap.size [.int .i64 s, .int .i64 l, .int .i64 o, .slice ag zs.length cg] ∧ Box wx w.heap.size [.int .i64 0, .int .i64 0, .int .i64 0, .slice none 0 0] ∧ Box wx (w.heap.size + 1) [.int .i64 0, .int .i64 0, .bool false] ∧ RRowA wx w3.heap.size (some ⟨br, offr, none⟩) rs2 ∧ Box wx W3.heap.size [.int .i64 a, .int .i64 c, .bool d] ∧ Rd wx r (0 + 260 + 30 + 1 + 1 + 1 + 1) ∧ w3.heap.size < wx.heap.size ∧ W3.heap.size < wx.heap.size)
        case first =>
          cases b2
          case false =>
            go_wp2_with fail
            (try clear z0 z0f z1 z1f z2 z2f z3 z3f q0 q0f q1 q1f q2 q2f x0 x0f x1 x1f x2 x2f x3 x3f t0 t0f t1 t1f t2 t2f)
            go_meet
            exact ⟨_, rfl, unhide HB, unhide HL, unhide HX, unhide HZ, unhide HQ, unhide HR8, unhide HT, (unhide HRd).mono (by omega), (unhide HX).lt, (unhide HT).lt⟩
          go_wp2_with fail
          refine (c26 r (0 + 260 + 30 + 1 + 1 + 1) 7 _ (by omega) (unhide HRd)).mono ?_
          rintro e w23 ⟨y, rfl, ya, yb, hr, hg⟩
          have yb := yb (by omega)
          (try clear z0 z0f z1 z1f z2 z2f z3 z3f q0 q0f q1 q1f q2 q2f x0 x0f x1 x1f x2 x2f x3 x3f t0 t0f t1 t1f t2 t2f)
          replace HB := hide (below_gr (unhide HB) hg (by omega))
          replace HL := hide ((unhide HL).kg hg (by omega))
          replace HX := hide ((unhide HX).kg hg (by omega))
          replace HZ := hide ((unhide HZ).kg hg (by omega))
          replace HQ := hide ((unhide HQ).kg hg (by omega))
          replace HR8 := hide ((unhide HR8).kg hg (by omega))
          replace HT := hide ((unhide HT).kg hg (by omega))
          replace HRd := hide hr
          clear hr hg
          have z0 := (unhide HZ).cell 0 rfl
          have z0f := (unhide HZ).frozen 0 rfl
          have z1 := (unhide HZ).cell 1 rfl
          have z1f := (unhide HZ).frozen 1 rfl
          have z2 := (unhide HZ).cell 2 rfl
          have z2f := (unhide HZ).frozen 2 rfl
          have z3 := (unhide HZ).cell 3 rfl
          have z3f := (unhide HZ).frozen 3 rfl
          have q0 := (unhide HQ).cell 0 rfl
          have q0f := (unhide HQ).frozen 0 rfl
          have q1 := (unhide HQ).cell 1 rfl
          have q1f := (unhide HQ).frozen 1 rfl
          have q2 := (unhide HQ).cell 2 rfl
          have q2f := (unhide HQ).frozen 2 rfl
          have x0 := (unhide HX).cell 0 rfl
          have x0f := (unhide HX).frozen 0 rfl
          have x1 := (unhide HX).cell 1 rfl
          have x1f := (unhide HX).frozen 1 rfl
          have x2 := (unhide HX).cell 2 rfl
          have x2f := (unhide HX).frozen 2 rfl
          have x3 := (unhide HX).cell 3 rfl
          have x3f := (unhide HX).frozen 3 rfl
          have t0 := (unhide HT).cell 0 rfl
          have t0f := (unhide HT).frozen 0 rfl
          have t1 := (unhide HT).cell 1 rfl
          have t1f := (unhide HT).frozen 1 rfl
          have t2 := (unhide HT).cell 2 rfl
          have t2f := (unhide HT).frozen 2 rfl
          go_wp2_with fail
          (try clear z0 z0f z1 z1f z2 z2f z3 z3f q0 q0f q1 q1f q2 q2f x0 x0f x1 x1f x2 x2f x3 x3f t0 t0f t1 t1f t2 t2f)
          go_meet
          exact ⟨_, rfl, unhide HB, unhide HL, unhide HX, unhide HZ, unhide HQ, unhide HR8, unhide HT, (unhide HRd).mono (by omega), (unhide HX).lt, (unhide HT).lt⟩
        (try clear z0 z0f z1 z1f z2 z2f z3 z3f q0 q0f q1 q1f q2 q2f x0 x0f x1 x1f x2 x2f x3 x3f t0 t0f t1 t1f t2 t2f)
        case rest =>
          obtain ⟨wh, rfl, fHB, fHL, fHX, fHZ, fHQ, fHR8, fHT, fRd, hszW, hszT⟩ := hcut
          obtain ⟨W4, hWc⟩ : ∃ x, x = wc := ⟨_, rfl⟩
          subst hWc
          clear HL HX HZ HQ HR8 HT HB HRd
          have HB := hide fHB
          have HL := hide fHL
          have HX := hide fHX
          have HZ := hide fHZ
          have HQ := hide fHQ
          have HR8 := hide fHR8
          have HT := hide fHT
          have HRd := hide fRd
          clear fHB fHL fHX fHZ fHQ fHR8 fHT fRd
          have z0 := (unhide HZ).cell 0 rfl
          have z0f := (unhide HZ).frozen 0 rfl
          have z1 := (unhide HZ).cell 1 rfl
          have z1f := (unhide HZ).frozen 1 rfl
          have z2 := (unhide HZ).cell 2 rfl
          have z2f := (unhide HZ).frozen 2 rfl
          have z3 := (unhide HZ).cell 3 rfl
          have z3f := (unhide HZ).frozen 3 rfl
          have q0 := (unhide HQ).cell 0 rfl
          have q0f := (unhide HQ).frozen 0 rfl
          have q1 := (unhide HQ).cell 1 rfl
          have q1f := (unhide HQ).frozen 1 rfl
          have q2 := (unhide HQ).cell 2 rfl
          have q2f := (unhide HQ).frozen 2 rfl
          have x0 := (unhide HX).cell 0 rfl
          have x0f := (unhide HX).frozen 0 rfl
          have x1 := (unhide HX).cell 1 rfl
          have x1f := (unhide HX).frozen 1 rfl
          have x2 := (unhide HX).cell 2 rfl
          have x2f := (unhide HX).frozen 2 rfl
          have x3 := (unhide HX).cell 3 rfl
          have x3f := (unhide HX).frozen 3 rfl
          have t0 := (unhide HT).cell 0 rfl
          have t0f := (unhide HT).frozen 0 rfl
          have t1 := (unhide HT).cell 1 rfl
          have t1f := (unhide HT).frozen 1 rfl
          have t2 := (unhide HT).cell 2 rfl
          have t2f := (unhide HT).frozen 2 rfl
          go_wp2_with fail
          refine (c27 r (0 + 260 + 30 + 1 + 1 + 1 + 1) 6 _ (by omega) (by omega) (unhide HRd)).mono ?_
          rintro e w23 ⟨b3, rfl, hr, hg⟩
          (try clear z0 z0f z1 z1f z2 z2f z3 z3f q0 q0f q1 q1f q2 q2f x0 x0f x1 x1f x2 x2f x3 x3f t0 t0f t1 t1f t2 t2f)
          replace HB := hide (below_gr (unhide HB) hg (by omega))
          replace HL := hide ((unhide HL).kg hg (by omega))
          replace HX := hide ((unhide HX).kg hg (by omega))
          replace HZ := hide ((unhide HZ).kg hg (by omega))
          replace HQ := hide ((unhide HQ).kg hg (by omega))
          replace HR8 := hide ((unhide HR8).kg hg (by omega))
          replace HT := hide ((unhide HT).kg hg (by omega))
          replace HRd := hide hr
          clear hr hg
          have z0 := (unhide HZ).cell 0 rfl
          have z0f := (unhide HZ).frozen 0 rfl
          have z1 := (unhide HZ).cell 1 rfl
          have z1f := (unhide HZ).frozen 1 rfl
          have z2 := (unhide HZ).cell 2 rfl
          have z2f := (unhide HZ).frozen 2 rfl
          have z3 := (unhide HZ).cell 3 rfl
          have z3f := (unhide HZ).frozen 3 rfl
          have q0 := (unhide HQ).cell 0 rfl
          have q0f := (unhide HQ).frozen 0 rfl
          have q1 := (unhide HQ).cell 1 rfl
          have q1f := (unhide HQ).frozen 1 rfl
          have q2 := (unhide HQ).cell 2 rfl
          have q2f := (unhide HQ).frozen 2 rfl
          have x0 := (unhide HX).cell 0 rfl
          have x0f := (unhide HX).frozen 0 rfl
          have x1 := (unhide HX).cell 1 rfl
          have x1f := (unhide HX).frozen 1 rfl
          have x2 := (unhide HX).cell 2 rfl
          have x2f := (unhide HX).frozen 2 rfl
          have x3 := (unhide HX).cell 3 rfl
          have x3f := (unhide HX).frozen 3 rfl
          have t0 := (unhide HT).cell 0 rfl
          have t0f := (unhide HT).frozen 0 rfl
          have t1 := (unhide HT).cell 1 rfl
          have t1f := (unhide HT).frozen 1 rfl
          have t2 := (unhide HT).cell 2 rfl
          have t2f := (unhide HT).frozen 2 rfl
          go_upto_if 64 with fail
          go_cut [] (fun wx => ∃ (a2 c2 : Int) (d2 : Bool), FitR (a2, c2, d2) ∧ Below w.heap.size w wx ∧ RowA wx w2.heap.size ag zs ∧ Box wx w3.heap.size [.int .i64 s, .int .i64 l, .int .i64 o, .slice ag zs.length cg] ∧ Box wx w.heap.size [.int .i64 0, .int .i64 0, .int .i64 0, .slice none 0 0] ∧ Box wx (w.heap.size + 1) [.int .i64 0, .int .i64 0, .bool false] ∧ RRowA wx w3.heap.size (some ⟨br, offr, none⟩) rs2 ∧ Box wx W3.heap.size [.int .i64 a2, .int .i64 c2, .bool d2] ∧ Rd wx r (0 + 260 + 30 + 1 + 1 + 1 + 1 + 1 + 3) ∧ w3.heap.size < wx.heap.size ∧ W3.heap.size < wx.heap.size)
          case first =>
            cases b3
            case false =>
              go_wp2_with fail
              (try clear z0 z0f z1 z1f z2 z2f z3 z3f q0 q0f q1 q1f q2 q2f x0 x0f x1 x1f x2 x2f x3 x3f t0 t0f t1 t1f t2 t2f)
              go_meet
              exact ⟨_, _, _, unhide HFR, unhide HB, unhide HL, unhide HX, unhide HZ, unhide HQ, unhide HR8, unhide HT, (unhide HRd).mono (by omega), (unhide HX).lt, (unhide HT).lt⟩
            go_wp2_with fail
            refine (c30 r (0 + 260 + 30 + 1 + 1 + 1 + 1 + 1) _ (by omega) (unhide HRd)).mono ?_
            rintro e w24 ⟨a2, c2, d2, rfl, ha2, hc2, hr, hg⟩
            have hft : FitR (a2, c2, d2) := ⟨by omega, by simp only [List.mem_cons, List.not_mem_nil, or_false] at hc2; dsimp only; omega⟩
            clear ha2 hc2
            (try clear z0 z0f z1 z1f z2 z2f z3 z3f q0 q0f q1 q1f q2 q2f x0 x0f x1 x1f x2 x2f x3 x3f t0 t0f t1 t1f t2 t2f)
            replace HB := hide (below_gr (unhide HB) hg (by omega))
            replace HL := hide ((unhide HL).kg hg (by omega))
            replace HX := hide ((unhide HX).kg hg (by omega))
            replace HZ := hide ((unhide HZ).kg hg (by omega))
            replace HQ := hide ((unhide HQ).kg hg (by omega))
            replace HR8 := hide ((unhide HR8).kg hg (by omega))
            replace HT := hide ((unhide HT).kg hg (by omega))
            replace HRd := hide hr
            clear hr hg
            have z0 := (unhide HZ).cell 0 rfl
            have z0f := (unhide HZ).frozen 0 rfl
            have z1 := (unhide HZ).cell 1 rfl
            have z1f := (unhide HZ).frozen 1 rfl
            have z2 := (unhide HZ).cell 2 rfl
            have z2f := (unhide HZ).frozen 2 rfl
            have z3 := (unhide HZ).cell 3 rfl
            have z3f := (unhide HZ).frozen 3 rfl
            have q0 := (unhide HQ).cell 0 rfl
            have q0f := (unhide HQ).frozen 0 rfl
            have q1 := (unhide HQ).cell 1 rfl
            have q1f := (unhide HQ).frozen 1 rfl
            have q2 := (unhide HQ).cell 2 rfl
            have q2f := (unhide HQ).frozen 2 rfl
            have x0 := (unhide HX).cell 0 rfl
            have x0f := (unhide HX).frozen 0 rfl
            have x1 := (unhide HX).cell 1 rfl
            have x1f := (unhide HX).frozen 1 rfl
            have x2 := (unhide HX).cell 2 rfl
            have x2f := (unhide HX).frozen 2 rfl
            have x3 := (unhide HX).cell 3 rfl
            have x3f := (unhide HX).frozen 3 rfl
            have t0 := (unhide HT).cell 0 rfl
            have t0f := (unhide HT).frozen 0 rfl
            have t1 := (unhide HT).cell 1 rfl
            have t1f := (unhide HT).frozen 1 rfl
            have t2 := (unhide HT).cell 2 rfl
            have t2f := (unhide HT).frozen 2 rfl
            go_wp2_with fail
            (try clear z0 z0f z1 z1f z2 z2f z3 z3f q0 q0f q1 q1f q2 q2f x0 x0f x1 x1f x2 x2f x3 x3f t0 t0f t1 t1f t2 t2f)
            replace HRd := hide ((unhide HRd).oth (i := 0) (g := W3.heap.size) (.int .i64 a2) (by omega))
            replace HB := hide (below_sc (p := ⟨W3.heap.size, 0, none⟩) (v := .int .i64 a2) (unhide HB) (by dsimp only; omega))
            replace HX := hide ((unhide HX).oth (i := 0) (g' := W3.heap.size) (.int .i64 a2) (by omega))
            replace HZ := hide ((unhide HZ).oth (i := 0) (g' := W3.heap.size) (.int .i64 a2) (by omega))
            replace HQ := hide ((unhide HQ).oth (i := 0) (g' := W3.heap.size) (.int .i64 a2) (by omega))
            replace HL := hide (rowa_young (g := W3.heap.size) (unhide HL) (fun a ha => by have := hlY0 a ha; omega) 0 (.int .i64 a2))
            replace HR8 := hide (⟨(unhide HR8).1.kpt (grown_cel _ W3.heap.size 0 (.int .i64 a2)) (fun a ha e => by cases ha; have := hbr; simp only [Option.some.injEq] at e; omega), (unhide HR8).2⟩ : RRowA _ w3.heap.size (some ⟨br, offr, none⟩) rs2)
            replace HT := hide (box_put (unhide HT) 0 (.int .i64 a2) (by simp))
            replace HRd := hide ((unhide HRd).oth (i := 1) (g := W3.heap.size) (.int .i64 c2) (by omega))
            replace HB := hide (below_sc (p := ⟨W3.heap.size, 1, none⟩) (v := .int .i64 c2) (unhide HB) (by dsimp only; omega))
            replace HX := hide ((unhide HX).oth (i := 1) (g' := W3.heap.size) (.int .i64 c2) (by omega))
            replace HZ := hide ((unhide HZ).oth (i := 1) (g' := W3.heap.size) (.int .i64 c2) (by omega))
            replace HQ := hide ((unhide HQ).oth (i := 1) (g' := W3.heap.size) (.int .i64 c2) (by omega))
            replace HL := hide (rowa_young (g := W3.heap.size) (unhide HL) (fun a ha => by have := hlY0 a ha; omega) 1 (.int .i64 c2))
            replace HR8 := hide (⟨(unhide HR8).1.kpt (grown_cel _ W3.heap.size 1 (.int .i64 c2)) (fun a ha e => by cases ha; have := hbr; simp only [Option.some.injEq] at e; omega), (unhide HR8).2⟩ : RRowA _ w3.heap.size (some ⟨br, offr, none⟩) rs2)
            replace HT := hide (box_put (unhide HT) 1 (.int .i64 c2) (by simp))
            replace HRd := hide ((unhide HRd).oth (i := 2) (g := W3.heap.size) (.bool d2) (by omega))
            replace HB := hide (below_sc (p := ⟨W3.heap.size, 2, none⟩) (v := .bool d2) (unhide HB) (by dsimp only; omega))
            replace HX := hide ((unhide HX).oth (i := 2) (g' := W3.heap.size) (.bool d2) (by omega))
            replace HZ := hide ((unhide HZ).oth (i := 2) (g' := W3.heap.size) (.bool d2) (by omega))
            replace HQ := hide ((unhide HQ).oth (i := 2) (g' := W3.heap.size) (.bool d2) (by omega))
            replace HL := hide (rowa_young (g := W3.heap.size) (unhide HL) (fun a ha => by have := hlY0 a ha; omega) 2 (.bool d2))
            replace HR8 := hide (⟨(unhide HR8).1.kpt (grown_cel _ W3.heap.size 2 (.bool d2)) (fun a ha e => by cases ha; have := hbr; simp only [Option.some.injEq] at e; omega), (unhide HR8).2⟩ : RRowA _ w3.heap.size (some ⟨br, offr, none⟩) rs2)
            replace HT := hide (box_put (unhide HT) 2 (.bool d2) (by simp))
            go_meet
            exact ⟨a2, c2, d2, hft, unhide HB, unhide HL, unhide HX, unhide HZ, unhide HQ, unhide HR8, unhide HT, (unhide HRd).mono (by omega), (unhide HX).lt, (unhide HT).lt⟩
          (try clear z0 z0f z1 z1f z2 z2f z3 z3f q0 q0f q1 q1f q2 q2f x0 x0f x1 x1f x2 x2f x3 x3f t0 t0f t1 t1f t2 t2f)
          case rest =>
            obtain ⟨a2, c2, d2, hft, fHB, fHL, fHX, fHZ, fHQ, fHR8, fHT, fRd, hszW, hszT2⟩ := hcut
            obtain ⟨W5, hWc⟩ : ∃ x, x = wc := ⟨_, rfl⟩
            subst hWc
            clear HL HX HZ HQ HR8 HT HB HRd
            have HB := hide fHB
            have HL := hide fHL
            have HX := hide fHX
            have HZ := hide fHZ
            have HQ := hide fHQ
            have HR8 := hide fHR8
            have HT := hide fHT
            have HRd := hide fRd
            clear fHB fHL fHX fHZ fHQ fHR8 fHT fRd
            have HFT := hide hft
            clear hft HFR
            have z0 := (unhide HZ).cell 0 rfl
            have z0f := (unhide HZ).frozen 0 rfl
            have z1 := (unhide HZ).cell 1 rfl
            have z1f := (unhide HZ).frozen 1 rfl
            have z2 := (unhide HZ).cell 2 rfl
            have z2f := (unhide HZ).frozen 2 rfl
            have z3 := (unhide HZ).cell 3 rfl
            have z3f := (unhide HZ).frozen 3 rfl
            have q0 := (unhide HQ).cell 0 rfl
            have q0f := (unhide HQ).frozen 0 rfl
            have q1 := (unhide HQ).cell 1 rfl
            have q1f := (unhide HQ).frozen 1 rfl
            have q2 := (unhide HQ).cell 2 rfl
            have q2f := (unhide HQ).frozen 2 rfl
            have x0 := (unhide HX).cell 0 rfl
            have x0f := (unhide HX).frozen 0 rfl
            have x1 := (unhide HX).cell 1 rfl
            have x1f := (unhide HX).frozen 1 rfl
            have x2 := (unhide HX).cell 2 rfl
            have x2f := (unhide HX).frozen 2 rfl
            have x3 := (unhide HX).cell 3 rfl
            have x3f := (unhide HX).frozen 3 rfl
            have t0 := (unhide HT).cell 0 rfl
            have t0f := (unhide HT).frozen 0 rfl
            have t1 := (unhide HT).cell 1 rfl
            have t1f := (unhide HT).frozen 1 rfl
            have t2 := (unhide HT).cell 2 rfl
            have t2f := (unhide HT).frozen 2 rfl
            go_wp2_with fail
            refine (c31 rs2 (tN : Int) (some ⟨br, offr, none⟩) 8 cr _ h8 (by omega) (unhide HR8).1).mono ?_
            rintro e w31 ⟨v, rfl, ho, hb⟩
            have hT9 := (unhide HT).lt
            have hX9 := (unhide HX).lt
            have hpl := ownProof_len rs2 (tN : Int)
            generalize ownProof rs2 (tN : Int) = ps at *
            obtain ⟨ap, capp, rfl, hcp, -, -⟩ := ho.row
            (try clear z0 z0f z1 z1f z2 z2f z3 z3f q0 q0f q1 q1f q2 q2f x0 x0f x1 x1f x2 x2f x3 x3f t0 t0f t1 t1f t2 t2f)
            replace HB := hide (below_tr (unhide HB) hb)
            replace HRd := hide ((unhide HRd).bel hb)
            replace HL := hide ((unhide HL).bel hb)
            replace HX := hide ((unhide HX).bel hb)
            replace HZ := hide ((unhide HZ).bel hb)
            replace HQ := hide ((unhide HQ).bel hb)
            replace HT := hide ((unhide HT).bel hb)
            clear HR8
            have HP := hide (ho)
            clear hb ho
            have z0 := (unhide HZ).cell 0 rfl
            have z0f := (unhide HZ).frozen 0 rfl
            have z1 := (unhide HZ).cell 1 rfl
            have z1f := (unhide HZ).frozen 1 rfl
            have z2 := (unhide HZ).cell 2 rfl
            have z2f := (unhide HZ).frozen 2 rfl
            have z3 := (unhide HZ).cell 3 rfl
            have z3f := (unhide HZ).frozen 3 rfl
            have q0 := (unhide HQ).cell 0 rfl
            have q0f := (unhide HQ).frozen 0 rfl
            have q1 := (unhide HQ).cell 1 rfl
            have q1f := (unhide HQ).frozen 1 rfl
            have q2 := (unhide HQ).cell 2 rfl
            have q2f := (unhide HQ).frozen 2 rfl
            have x0 := (unhide HX).cell 0 rfl
            have x0f := (unhide HX).frozen 0 rfl
            have x1 := (unhide HX).cell 1 rfl
            have x1f := (unhide HX).frozen 1 rfl
            have x2 := (unhide HX).cell 2 rfl
            have x2f := (unhide HX).frozen 2 rfl
            have x3 := (unhide HX).cell 3 rfl
            have x3f := (unhide HX).frozen 3 rfl
            have t0 := (unhide HT).cell 0 rfl
            have t0f := (unhide HT).frozen 0 rfl
            have t1 := (unhide HT).cell 1 rfl
            have t1f := (unhide HT).frozen 1 rfl
            have t2 := (unhide HT).cell 2 rfl
            have t2f := (unhide HT).frozen 2 rfl
            go_wp2_with fail
            refine (c27 r (0 + 260 + 30 + 1 + 1 + 1 + 1 + 1 + 3) 9 _ (by omega) (by omega) (unhide HRd)).mono ?_
            rintro e w32 ⟨b4, rfl, hr, hg⟩
            (try clear z0 z0f z1 z1f z2 z2f z3 z3f q0 q0f q1 q1f q2 q2f x0 x0f x1 x1f x2 x2f x3 x3f t0 t0f t1 t1f t2 t2f)
            replace HB := hide (below_gr (unhide HB) hg (by omega))
            replace HL := hide ((unhide HL).kg hg (by omega))
            replace HX := hide ((unhide HX).kg hg (by omega))
            replace HZ := hide ((unhide HZ).kg hg (by omega))
            replace HQ := hide ((unhide HQ).kg hg (by omega))
            replace HT := hide ((unhide HT).kg hg (by omega))
            replace HP := hide ((unhide HP).kg hg (by omega))
            replace HRd := hide hr
            clear hr hg
            have z0 := (unhide HZ).cell 0 rfl
            have z0f := (unhide HZ).frozen 0 rfl
            have z1 := (unhide HZ).cell 1 rfl
            have z1f := (unhide HZ).frozen 1 rfl
            have z2 := (unhide HZ).cell 2 rfl
            have z2f := (unhide HZ).frozen 2 rfl
            have z3 := (unhide HZ).cell 3 rfl
            have z3f := (unhide HZ).frozen 3 rfl
            have q0 := (unhide HQ).cell 0 rfl
            have q0f := (unhide HQ).frozen 0 rfl
            have q1 := (unhide HQ).cell 1 rfl
            have q1f := (unhide HQ).frozen 1 rfl
            have q2 := (unhide HQ).cell 2 rfl
            have q2f := (unhide HQ).frozen 2 rfl
            have x0 := (unhide HX).cell 0 rfl
            have x0f := (unhide HX).frozen 0 rfl
            have x1 := (unhide HX).cell 1 rfl
            have x1f := (unhide HX).frozen 1 rfl
            have x2 := (unhide HX).cell 2 rfl
            have x2f := (unhide HX).frozen 2 rfl
            have x3 := (unhide HX).cell 3 rfl
            have x3f := (unhide HX).frozen 3 rfl
            have t0 := (unhide HT).cell 0 rfl
            have t0f := (unhide HT).frozen 0 rfl
            have t1 := (unhide HT).cell 1 rfl
            have t1f := (unhide HT).frozen 1 rfl
            have t2 := (unhide HT).cell 2 rfl
            have t2f := (unhide HT).frozen 2 rfl
            cases b4
            case false =>
              go_wp2_with fail
              go_region
              all_goals
                go_wp2_with fail
                exact bodyPost_ret (v := .tuple #[gatV s l o (.slice ag zs.length cg), .int .i64 (tN : Int), .int .i64 wh, rowV a2 c2 d2, .slice ap ps.length capp]) (by simp [results, Tryz.results5, go_sem, z0, z1, z2, z3, q0, q1, q2]) rfl ⟨_, _, _, zs, ag, cg, _, _, _, _, _, ps, _, _, _, rfl, hzl, hcg, hzg, ((RowA.oth (RowA.oth (RowA.oth (RowA.oth (RowA.oth (RowA.oth (RowA.oth (unhide HL) _ (by omega)) _ (by omega)) _ (by omega)) _ (by omega)) _ (by omega)) _ (by omega)) _ (by omega)).bel (below_drew _)).1, by omega, unhide HFT, rfl, hcp, by omega, (own_rowI ((Own.oth (Own.oth (Own.oth (Own.oth (Own.oth (Own.oth (Own.oth (unhide HP) _ (by omega)) _ (by omega)) _ (by omega)) _ (by omega)) _ (by omega)) _ (by omega)) _ (by omega)).bel (below_drew _))), (below_sc (below_sc (below_sc (below_sc (below_sc (below_sc (below_sc (unhide HB) (by dsimp only; omega)) (by dsimp only; omega)) (by dsimp only; omega)) (by dsimp only; omega)) (by dsimp only; omega)) (by dsimp only; omega)) (by dsimp only; omega)).drew⟩
            by_cases hz : ps = []
            case pos =>
              have hz0 : (ps.length : Int) = 0 := by rw [hz]; rfl
              clear hz
              go_wp2_with fail
              go_region
              all_goals
                go_wp2_with fail
                exact bodyPost_ret (v := .tuple #[gatV s l o (.slice ag zs.length cg), .int .i64 (tN : Int), .int .i64 wh, rowV a2 c2 d2, .slice ap ps.length capp]) (by simp [results, Tryz.results5, go_sem, z0, z1, z2, z3, q0, q1, q2]) rfl ⟨_, _, _, zs, ag, cg, _, _, _, _, _, ps, _, _, _, rfl, hzl, hcg, hzg, ((RowA.oth (RowA.oth (RowA.oth (RowA.oth (RowA.oth (RowA.oth (RowA.oth (unhide HL) _ (by omega)) _ (by omega)) _ (by omega)) _ (by omega)) _ (by omega)) _ (by omega)) _ (by omega)).bel (below_drew _)).1, by omega, unhide HFT, rfl, hcp, by omega, (own_rowI ((Own.oth (Own.oth (Own.oth (Own.oth (Own.oth (Own.oth (Own.oth (unhide HP) _ (by omega)) _ (by omega)) _ (by omega)) _ (by omega)) _ (by omega)) _ (by omega)) _ (by omega)).bel (below_drew _))), (below_sc (below_sc (below_sc (below_sc (below_sc (below_sc (below_sc (unhide HB) (by dsimp only; omega)) (by dsimp only; omega)) (by dsimp only; omega)) (by dsimp only; omega)) (by dsimp only; omega)) (by dsimp only; omega)) (by dsimp only; omega)).drew⟩
            have hpos : 0 < ps.length := List.length_pos_iff.2 hz
            have hgt9 : (0 : Int) < (ps.length : Int) := by omega
            obtain ⟨gp, rfl⟩ := own_ne (unhide HP) hz
            obtain ⟨p0, p0f⟩ := own_cell (unhide HP) rfl (j := 0) hpos
            have hgp := ((unhide HP).2.lt gp rfl).1
            clear p0 p0f hz
            go_wp2_with fail
            refine (c32 r (0 + 260 + 30 + 1 + 1 + 1 + 1 + 1 + 3 + 1) 9 _ (by omega) (by omega) (unhide HRd)).mono ?_
            rintro e w33 ⟨m, rfl, mb, hr, hg⟩
            (try clear z0 z0f z1 z1f z2 z2f z3 z3f q0 q0f q1 q1f q2 q2f x0 x0f x1 x1f x2 x2f x3 x3f t0 t0f t1 t1f t2 t2f)
            replace HB := hide (below_gr (unhide HB) hg (by omega))
            replace HL := hide ((unhide HL).kg hg (by omega))
            replace HX := hide ((unhide HX).kg hg (by omega))
            replace HZ := hide ((unhide HZ).kg hg (by omega))
            replace HQ := hide ((unhide HQ).kg hg (by omega))
            replace HT := hide ((unhide HT).kg hg (by omega))
            replace HP := hide ((unhide HP).kg hg (by omega))
            replace HRd := hide hr
            clear hr hg
            have z0 := (unhide HZ).cell 0 rfl
            have z0f := (unhide HZ).frozen 0 rfl
            have z1 := (unhide HZ).cell 1 rfl
            have z1f := (unhide HZ).frozen 1 rfl
            have z2 := (unhide HZ).cell 2 rfl
            have z2f := (unhide HZ).frozen 2 rfl
            have z3 := (unhide HZ).cell 3 rfl
            have z3f := (unhide HZ).frozen 3 rfl
            have q0 := (unhide HQ).cell 0 rfl
            have q0f := (unhide HQ).frozen 0 rfl
            have q1 := (unhide HQ).cell 1 rfl
            have q1f := (unhide HQ).frozen 1 rfl
            have q2 := (unhide HQ).cell 2 rfl
            have q2f := (unhide HQ).frozen 2 rfl
            have x0 := (unhide HX).cell 0 rfl
            have x0f := (unhide HX).frozen 0 rfl
            have x1 := (unhide HX).cell 1 rfl
            have x1f := (unhide HX).frozen 1 rfl
            have x2 := (unhide HX).cell 2 rfl
            have x2f := (unhide HX).frozen 2 rfl
            have x3 := (unhide HX).cell 3 rfl
            have x3f := (unhide HX).frozen 3 rfl
            have t0 := (unhide HT).cell 0 rfl
            have t0f := (unhide HT).frozen 0 rfl
            have t1 := (unhide HT).cell 1 rfl
            have t1f := (unhide HT).frozen 1 rfl
            have t2 := (unhide HT).cell 2 rfl
            have t2f := (unhide HT).frozen 2 rfl
            obtain ⟨p0, p0f⟩ := own_cell (unhide HP) rfl (j := 0) hpos
            go_wp2_with fail
            clear p0 p0f
            (try clear z0 z0f z1 z1f z2 z2f z3 z3f q0 q0f q1 q1f q2 q2f x0 x0f x1 x1f x2 x2f x3 x3f t0 t0f t1 t1f t2 t2f)
            replace HB := hide (below_sc (p := ⟨gp, 0, none⟩) (v := .int .i64 m) (unhide HB) (by dsimp only; omega))
            replace HX := hide ((unhide HX).oth (i := 0) (g' := gp) (.int .i64 m) (by omega))
            replace HZ := hide ((unhide HZ).oth (i := 0) (g' := gp) (.int .i64 m) (by omega))
            replace HQ := hide ((unhide HQ).oth (i := 0) (g' := gp) (.int .i64 m) (by omega))
            replace HT := hide ((unhide HT).oth (i := 0) (g' := gp) (.int .i64 m) (by omega))
            replace HL := hide (rowa_young (g := gp) (unhide HL) (fun a ha => by have := hlY0 a ha; omega) 0 (.int .i64 m))
            replace HP := hide (own_setF (unhide HP) rfl 0 m mb)
            generalize w33.setCell ⟨gp, 0, none⟩ (.int .i64 m) = W9 at *
            have z0 := (unhide HZ).cell 0 rfl
            have z0f := (unhide HZ).frozen 0 rfl
            have z1 := (unhide HZ).cell 1 rfl
            have z1f := (unhide HZ).frozen 1 rfl
            have z2 := (unhide HZ).cell 2 rfl
            have z2f := (unhide HZ).frozen 2 rfl
            have z3 := (unhide HZ).cell 3 rfl
            have z3f := (unhide HZ).frozen 3 rfl
            have q0 := (unhide HQ).cell 0 rfl
            have q0f := (unhide HQ).frozen 0 rfl
            have q1 := (unhide HQ).cell 1 rfl
            have q1f := (unhide HQ).frozen 1 rfl
            have q2 := (unhide HQ).cell 2 rfl
            have q2f := (unhide HQ).frozen 2 rfl
            have x0 := (unhide HX).cell 0 rfl
            have x0f := (unhide HX).frozen 0 rfl
            have x1 := (unhide HX).cell 1 rfl
            have x1f := (unhide HX).frozen 1 rfl
            have x2 := (unhide HX).cell 2 rfl
            have x2f := (unhide HX).frozen 2 rfl
            have x3 := (unhide HX).cell 3 rfl
            have x3f := (unhide HX).frozen 3 rfl
            have t0 := (unhide HT).cell 0 rfl
            have t0f := (unhide HT).frozen 0 rfl
            have t1 := (unhide HT).cell 1 rfl
            have t1f := (unhide HT).frozen 1 rfl
            have t2 := (unhide HT).cell 2 rfl
            have t2f := (unhide HT).frozen 2 rfl
            go_wp2_with fail
            go_region
            all_goals
              go_wp2_with fail
              exact bodyPost_ret (v := .tuple #[gatV s l o (.slice ag zs.length cg), .int .i64 (tN : Int), .int .i64 wh, rowV a2 c2 d2, .slice (some ⟨gp, 0, none⟩) ps.length capp]) (by simp [results, Tryz.results5, go_sem, z0, z1, z2, z3, q0, q1, q2]) rfl ⟨_, _, _, zs, ag, cg, _, _, _, _, _, (ps.set 0 m), _, _, _, rfl, hzl, hcg, hzg, ((RowA.oth (RowA.oth (RowA.oth (RowA.oth (RowA.oth (RowA.oth (RowA.oth (unhide HL) _ (by omega)) _ (by omega)) _ (by omega)) _ (by omega)) _ (by omega)) _ (by omega)) _ (by omega)).bel (below_drew _)).1, by omega, unhide HFT, by rw [List.length_set], hcp, by omega, (own_rowI ((Own.oth (Own.oth (Own.oth (Own.oth (Own.oth (Own.oth (Own.oth (unhide HP) _ (by omega)) _ (by omega)) _ (by omega)) _ (by omega)) _ (by omega)) _ (by omega)) _ (by omega)).bel (below_drew _))), (below_sc (below_sc (below_sc (below_sc (below_sc (below_sc (below_sc (unhide HB) (by dsimp only; omega)) (by dsimp only; omega)) (by dsimp only; omega)) (by dsimp only; omega)) (by dsimp only; omega)) (by dsimp only; omega)) (by dsimp only; omega)).drew⟩
end Go.Proofs.YtmlbphmbffkdnaaGreat
