/-
  Texts of the proof, what it needs of them: Dgs.
-/
import Derived.Test.YtmlbphmbffkdnaaGs34
import Derived.Test.YtmlbphmbffkdnaaGs50
namespace Go.Proofs.Ytmlbphmbffkdnaa
open Go.RowKit
set_option linter.unusedVariables false
set_option maxRecDepth 100000

/-- a gate, a head and a proof, drawn of a code -/
def GateP (w : World) (e : Ending) (w' : World) : Prop :=
  ∃ (s l o : Int) (zs : List Int) (ag : Option Addr) (cg : Nat) (s' l' o' : Int) (ps : List Int) (ap : Option Addr) (n cap : Nat), e = .returned (.tuple #[gatV s l o (.slice ag zs.length cg), hedV s' l' o', .slice ap n cap]) ∧ zs.length ≤ 9 ∧ zs.length ≤ cg ∧ (ag = none → cg = 0) ∧ Row w' ag zs ∧ ps.length = n ∧ n ≤ cap ∧ n ≤ 7 ∧ Row w' ap ps ∧ Below w.heap.size w w'
theorem rowa_young {w : World} {base g : Nat} {ao : Option Addr} {ps : List Int} (h : RowA w base ao ps) (hy : ∀ a, ao = some a → a.block < g) (i : Nat) (v : Value) : RowA (w.setCell ⟨g, i, none⟩ v) base ao ps := ⟨h.1.kpt (grown_cel w g i v) (fun a ha e => by have := hy a ha; simp only [Option.some.injEq] at e; omega), h.2⟩
set_option maxHeartbeats 8000000 in
theorem c54 (bs : List Int) (ao : Option Addr) (n cap : Nat) (w : World) (hn : bs.length = n) (hc : n ≤ cap) (hm : cap ≤ maxLen) (hB : Bytes w ao bs) :
    Calls Try.prog 54 #[.slice ao n cap] w (GateP w) := by
  have HB := hide (Below.refl w.heap.size w)
  have HBY := hide hB
  clear hB
  replace HB := hide (below_al (o := .cells #[.int .i64 0, .int .i64 0, .int .i64 0, .slice none 0 0] 63) (unhide HB))
  replace HBY := hide ((unhide HBY).bel (below_a (.cells #[.int .i64 0, .int .i64 0, .int .i64 0, .slice none 0 0] 63)))
  have HZ := hide (box_new w [.int .i64 0, .int .i64 0, .int .i64 0, .slice none 0 0] 63 (by simp [Value.oneCell']))
  (try simp only [World.size_alloc] at HZ)
  replace HB := hide (below_al (o := .cells #[.int .i64 0, .int .i64 0, .int .i64 0] 61) (unhide HB))
  replace HBY := hide ((unhide HBY).bel (below_a (.cells #[.int .i64 0, .int .i64 0, .int .i64 0] 61)))
  replace HZ := hide ((unhide HZ).bel (below_a (.cells #[.int .i64 0, .int .i64 0, .int .i64 0] 61)))
  have HQ := hide (box_new (w.alloc (.cells #[.int .i64 0, .int .i64 0, .int .i64 0, .slice none 0 0] 63)) [.int .i64 0, .int .i64 0, .int .i64 0] 61 (by simp [Value.oneCell']))
  (try simp only [World.size_alloc] at HQ)
  have z0 := (unhide HZ).cell 0 rfl
  have z0f := (unhide HZ).frozen 0 rfl
  have z1 := (unhide HZ).cell 1 rfl
  have z1f := (unhide HZ).frozen 1 rfl
  have z2 := (unhide HZ).cell 2 rfl
  have z2f := (unhide HZ).frozen 2 rfl
  have z3 := (unhide HZ).cell 3 rfl
  have z3f := (unhide HZ).frozen 3 rfl
  have q0 := (unhide HQ).cell 0 rfl
  have q0f := (unhide HQ).frozen 0 rfl
  have q1 := (unhide HQ).cell 1 rfl
  have q1f := (unhide HQ).frozen 1 rfl
  have q2 := (unhide HQ).cell 2 rfl
  have q2f := (unhide HQ).frozen 2 rfl
  go_enter Try.func54, Try.ntmps54
  go_wp2_with fail
  refine (c104 bs ao n cap _ hn hc hm (unhide HBY)).mono ?_
  rintro e w1 ⟨rfl, hr, hb, hl1⟩
  (try clear z0 z0f z1 z1f z2 z2f z3 z3f q0 q0f q1 q1f q2 q2f)
  clear HBY
  replace HB := hide (below_tr (unhide HB) hb)
  replace HZ := hide ((unhide HZ).bel hb)
  replace HQ := hide ((unhide HQ).bel hb)
  (try simp only [World.size_alloc] at hr hl1)
  (try simp only [World.size_alloc])
  generalize hrr : w.heap.size + 1 + 1 = r at *
  have HRd := hide hr
  have HRR := hide hrr
  have hwr : w.heap.size ≤ r := by omega
  have hne0 : r ≠ w.heap.size := by omega
  have hne1 : r ≠ w.heap.size + 1 := by omega
  clear hr hb hrr
  have z0 := (unhide HZ).cell 0 rfl
  have z0f := (unhide HZ).frozen 0 rfl
  have z1 := (unhide HZ).cell 1 rfl
  have z1f := (unhide HZ).frozen 1 rfl
  have z2 := (unhide HZ).cell 2 rfl
  have z2f := (unhide HZ).frozen 2 rfl
  have z3 := (unhide HZ).cell 3 rfl
  have z3f := (unhide HZ).frozen 3 rfl
  have q0 := (unhide HQ).cell 0 rfl
  have q0f := (unhide HQ).frozen 0 rfl
  have q1 := (unhide HQ).cell 1 rfl
  have q1f := (unhide HQ).frozen 1 rfl
  have q2 := (unhide HQ).cell 2 rfl
  have q2f := (unhide HQ).frozen 2 rfl
  go_wp2_with fail
  refine (c134 r (0) 99999 _ (by omega) (by omega) (unhide HRd)).mono ?_
  rintro e w2 ⟨v, es, rfl, hesl, ho, hr, hg⟩
  obtain ⟨ales, caples, rfl, hcles, -, -⟩ := ho.row
  have hbasees : r < w1.heap.size := (unhide HRd).lt
  (try clear z0 z0f z1 z1f z2 z2f z3 z3f q0 q0f q1 q1f q2 q2f)
  replace HB := hide (below_gr (unhide HB) hg (by omega))
  replace HZ := hide ((unhide HZ).kg hg (by omega))
  replace HQ := hide ((unhide HQ).kg hg (by omega))
  replace HRd := hide hr
  clear hr hg
  have HO := hide ho
  clear ho
  have z0 := (unhide HZ).cell 0 rfl
  have z0f := (unhide HZ).frozen 0 rfl
  have z1 := (unhide HZ).cell 1 rfl
  have z1f := (unhide HZ).frozen 1 rfl
  have z2 := (unhide HZ).cell 2 rfl
  have z2f := (unhide HZ).frozen 2 rfl
  have z3 := (unhide HZ).cell 3 rfl
  have z3f := (unhide HZ).frozen 3 rfl
  have q0 := (unhide HQ).cell 0 rfl
  have q0f := (unhide HQ).frozen 0 rfl
  have q1 := (unhide HQ).cell 1 rfl
  have q1f := (unhide HQ).frozen 1 rfl
  have q2 := (unhide HQ).cell 2 rfl
  have q2f := (unhide HQ).frozen 2 rfl
  go_wp2_with fail
  refine (c135 r (0 + 260) 16 es ales es.length caples w1.heap.size _ (by omega) (by omega) (unhide HRd) rfl hesl hcles hbasees (unhide HO)).mono ?_
  rintro e w3 ⟨s, l, o, v, zs, rfl, hzl, hov, hr, hg⟩
  obtain ⟨ag, cg, rfl, hcg, hzg, hrg, hbg⟩ := hov.any
  have hWp : r < w2.heap.size := (unhide HRd).lt
  have HL : Hid (RowA _ w2.heap.size ag zs) := ⟨hrg, fun a ha => (hbg a ha).1⟩
  have hlY0 := fun a ha => (hbg a ha).2
  clear hov hrg hbg
  (try clear z0 z0f z1 z1f z2 z2f z3 z3f q0 q0f q1 q1f q2 q2f)
  replace HB := hide (below_gr (unhide HB) hg (by omega))
  replace HZ := hide ((unhide HZ).kg hg (by omega))
  replace HQ := hide ((unhide HQ).kg hg (by omega))
  replace HO := hide ((unhide HO).kg hg (by omega))
  replace HRd := hide hr
  clear hr hg
  have z0 := (unhide HZ).cell 0 rfl
  have z0f := (unhide HZ).frozen 0 rfl
  have z1 := (unhide HZ).cell 1 rfl
  have z1f := (unhide HZ).frozen 1 rfl
  have z2 := (unhide HZ).cell 2 rfl
  have z2f := (unhide HZ).frozen 2 rfl
  have z3 := (unhide HZ).cell 3 rfl
  have z3f := (unhide HZ).frozen 3 rfl
  have q0 := (unhide HQ).cell 0 rfl
  have q0f := (unhide HQ).frozen 0 rfl
  have q1 := (unhide HQ).cell 1 rfl
  have q1f := (unhide HQ).frozen 1 rfl
  have q2 := (unhide HQ).cell 2 rfl
  have q2f := (unhide HQ).frozen 2 rfl
  (try clear z0 z0f z1 z1f z2 z2f z3 z3f q0 q0f q1 q1f q2 q2f)
  have hzHX : r < w3.heap.size := (unhide HRd).lt
  replace HB := hide (below_al (o := .cells #[.int .i64 s, .int .i64 l, .int .i64 o, .slice ag zs.length cg] 63) (unhide HB))
  replace HRd := hide ((unhide HRd).alloc (.cells #[.int .i64 s, .int .i64 l, .int .i64 o, .slice ag zs.length cg] 63))
  replace HZ := hide ((unhide HZ).bel (below_a (.cells #[.int .i64 s, .int .i64 l, .int .i64 o, .slice ag zs.length cg] 63)))
  replace HQ := hide ((unhide HQ).bel (below_a (.cells #[.int .i64 s, .int .i64 l, .int .i64 o, .slice ag zs.length cg] 63)))
  replace HO := hide ((unhide HO).bel (below_a (.cells #[.int .i64 s, .int .i64 l, .int .i64 o, .slice ag zs.length cg] 63)))
  replace HL := hide ((unhide HL).bel (below_a (.cells #[.int .i64 s, .int .i64 l, .int .i64 o, .slice ag zs.length cg] 63)))
  have HX := hide (box_new w3 [.int .i64 s, .int .i64 l, .int .i64 o, .slice ag zs.length cg] 63 (by simp [Value.oneCell']))
  have z0 := (unhide HZ).cell 0 rfl
  have z0f := (unhide HZ).frozen 0 rfl
  have z1 := (unhide HZ).cell 1 rfl
  have z1f := (unhide HZ).frozen 1 rfl
  have z2 := (unhide HZ).cell 2 rfl
  have z2f := (unhide HZ).frozen 2 rfl
  have z3 := (unhide HZ).cell 3 rfl
  have z3f := (unhide HZ).frozen 3 rfl
  have q0 := (unhide HQ).cell 0 rfl
  have q0f := (unhide HQ).frozen 0 rfl
  have q1 := (unhide HQ).cell 1 rfl
  have q1f := (unhide HQ).frozen 1 rfl
  have q2 := (unhide HQ).cell 2 rfl
  have q2f := (unhide HQ).frozen 2 rfl
  have x0 := (unhide HX).cell 0 rfl
  have x0f := (unhide HX).frozen 0 rfl
  have x1 := (unhide HX).cell 1 rfl
  have x1f := (unhide HX).frozen 1 rfl
  have x2 := (unhide HX).cell 2 rfl
  have x2f := (unhide HX).frozen 2 rfl
  have x3 := (unhide HX).cell 3 rfl
  have x3f := (unhide HX).frozen 3 rfl
  go_wp2_with fail
  generalize hs1 : hS es = s' at *
  generalize hl1 : hL es = l' at *
  generalize ho1 : hO es = o' at *
  generalize hbb1 : foldIs es = b' at *
  have HS1 := hide hs1
  have HL1 := hide hl1
  have HO1 := hide ho1
  have HB1 := hide hbb1
  clear hs1 hl1 ho1 hbb1
  refine (c136 es ales es.length caples _ rfl hcles (by omega) ((unhide HO).rd rfl)).mono ?_
  rintro e w4 ⟨rfl, hb⟩
  rw [unhide HS1, unhide HL1, unhide HO1, unhide HB1]
  (try clear z0 z0f z1 z1f z2 z2f z3 z3f q0 q0f q1 q1f q2 q2f x0 x0f x1 x1f x2 x2f x3 x3f)
  replace HB := hide (below_tr (unhide HB) hb)
  replace HRd := hide ((unhide HRd).bel hb)
  replace HZ := hide ((unhide HZ).bel hb)
  replace HQ := hide ((unhide HQ).bel hb)
  replace HO := hide ((unhide HO).bel hb)
  replace HL := hide ((unhide HL).bel hb)
  replace HX := hide ((unhide HX).bel hb)
  clear hb
  have z0 := (unhide HZ).cell 0 rfl
  have z0f := (unhide HZ).frozen 0 rfl
  have z1 := (unhide HZ).cell 1 rfl
  have z1f := (unhide HZ).frozen 1 rfl
  have z2 := (unhide HZ).cell 2 rfl
  have z2f := (unhide HZ).frozen 2 rfl
  have z3 := (unhide HZ).cell 3 rfl
  have z3f := (unhide HZ).frozen 3 rfl
  have q0 := (unhide HQ).cell 0 rfl
  have q0f := (unhide HQ).frozen 0 rfl
  have q1 := (unhide HQ).cell 1 rfl
  have q1f := (unhide HQ).frozen 1 rfl
  have q2 := (unhide HQ).cell 2 rfl
  have q2f := (unhide HQ).frozen 2 rfl
  have x0 := (unhide HX).cell 0 rfl
  have x0f := (unhide HX).frozen 0 rfl
  have x1 := (unhide HX).cell 1 rfl
  have x1f := (unhide HX).frozen 1 rfl
  have x2 := (unhide HX).cell 2 rfl
  have x2f := (unhide HX).frozen 2 rfl
  have x3 := (unhide HX).cell 3 rfl
  have x3f := (unhide HX).frozen 3 rfl
  clear HS1 HL1 HO1 HB1
  have hxy := (unhide HX).lt
  have hzy := (unhide HZ).lt
  have hqy := (unhide HQ).lt
  have hlY := fun a ha => Nat.lt_trans (hlY0 a ha) hxy
  clear hlY0
  (try clear z0 z0f z1 z1f z2 z2f z3 z3f q0 q0f q1 q1f q2 q2f x0 x0f x1 x1f x2 x2f x3 x3f)
  have hzHY : r < w4.heap.size := (unhide HRd).lt
  replace HB := hide (below_al (o := .cells #[.int .i64 s', .int .i64 l', .int .i64 o'] 61) (unhide HB))
  replace HRd := hide ((unhide HRd).alloc (.cells #[.int .i64 s', .int .i64 l', .int .i64 o'] 61))
  replace HZ := hide ((unhide HZ).bel (below_a (.cells #[.int .i64 s', .int .i64 l', .int .i64 o'] 61)))
  replace HQ := hide ((unhide HQ).bel (below_a (.cells #[.int .i64 s', .int .i64 l', .int .i64 o'] 61)))
  replace HO := hide ((unhide HO).bel (below_a (.cells #[.int .i64 s', .int .i64 l', .int .i64 o'] 61)))
  replace HL := hide ((unhide HL).bel (below_a (.cells #[.int .i64 s', .int .i64 l', .int .i64 o'] 61)))
  replace HX := hide ((unhide HX).bel (below_a (.cells #[.int .i64 s', .int .i64 l', .int .i64 o'] 61)))
  have HY := hide (box_new w4 [.int .i64 s', .int .i64 l', .int .i64 o'] 61 (by simp [Value.oneCell']))
  have z0 := (unhide HZ).cell 0 rfl
  have z0f := (unhide HZ).frozen 0 rfl
  have z1 := (unhide HZ).cell 1 rfl
  have z1f := (unhide HZ).frozen 1 rfl
  have z2 := (unhide HZ).cell 2 rfl
  have z2f := (unhide HZ).frozen 2 rfl
  have z3 := (unhide HZ).cell 3 rfl
  have z3f := (unhide HZ).frozen 3 rfl
  have q0 := (unhide HQ).cell 0 rfl
  have q0f := (unhide HQ).frozen 0 rfl
  have q1 := (unhide HQ).cell 1 rfl
  have q1f := (unhide HQ).frozen 1 rfl
  have q2 := (unhide HQ).cell 2 rfl
  have q2f := (unhide HQ).frozen 2 rfl
  have x0 := (unhide HX).cell 0 rfl
  have x0f := (unhide HX).frozen 0 rfl
  have x1 := (unhide HX).cell 1 rfl
  have x1f := (unhide HX).frozen 1 rfl
  have x2 := (unhide HX).cell 2 rfl
  have x2f := (unhide HX).frozen 2 rfl
  have x3 := (unhide HX).cell 3 rfl
  have x3f := (unhide HX).frozen 3 rfl
  have y0 := (unhide HY).cell 0 rfl
  have y0f := (unhide HY).frozen 0 rfl
  have y1 := (unhide HY).cell 1 rfl
  have y1f := (unhide HY).frozen 1 rfl
  have y2 := (unhide HY).cell 2 rfl
  have y2f := (unhide HY).frozen 2 rfl
  go_wp2_with fail
  refine (c137 es s ales es.length caples _ rfl (by omega) ((unhide HO).rd rfl)).mono ?_
  rintro e w5 ⟨v, rfl, ho, hb⟩
  obtain ⟨ap, capp, rfl, hcp, hrr, hbl⟩ := ho.row
  (try clear z0 z0f z1 z1f z2 z2f z3 z3f q0 q0f q1 q1f q2 q2f x0 x0f x1 x1f x2 x2f x3 x3f y0 y0f y1 y1f y2 y2f)
  replace HB := hide (below_tr (unhide HB) hb)
  replace HRd := hide ((unhide HRd).bel hb)
  replace HZ := hide ((unhide HZ).bel hb)
  replace HQ := hide ((unhide HQ).bel hb)
  replace HO := hide ((unhide HO).bel hb)
  replace HL := hide ((unhide HL).bel hb)
  replace HX := hide ((unhide HX).bel hb)
  replace HY := hide ((unhide HY).bel hb)
  clear hb
  have z0 := (unhide HZ).cell 0 rfl
  have z0f := (unhide HZ).frozen 0 rfl
  have z1 := (unhide HZ).cell 1 rfl
  have z1f := (unhide HZ).frozen 1 rfl
  have z2 := (unhide HZ).cell 2 rfl
  have z2f := (unhide HZ).frozen 2 rfl
  have z3 := (unhide HZ).cell 3 rfl
  have z3f := (unhide HZ).frozen 3 rfl
  have q0 := (unhide HQ).cell 0 rfl
  have q0f := (unhide HQ).frozen 0 rfl
  have q1 := (unhide HQ).cell 1 rfl
  have q1f := (unhide HQ).frozen 1 rfl
  have q2 := (unhide HQ).cell 2 rfl
  have q2f := (unhide HQ).frozen 2 rfl
  have x0 := (unhide HX).cell 0 rfl
  have x0f := (unhide HX).frozen 0 rfl
  have x1 := (unhide HX).cell 1 rfl
  have x1f := (unhide HX).frozen 1 rfl
  have x2 := (unhide HX).cell 2 rfl
  have x2f := (unhide HX).frozen 2 rfl
  have x3 := (unhide HX).cell 3 rfl
  have x3f := (unhide HX).frozen 3 rfl
  have y0 := (unhide HY).cell 0 rfl
  have y0f := (unhide HY).frozen 0 rfl
  have y1 := (unhide HY).cell 1 rfl
  have y1f := (unhide HY).frozen 1 rfl
  have y2 := (unhide HY).cell 2 rfl
  have y2f := (unhide HY).frozen 2 rfl
  have hpl := hedProof_len es s
  generalize hps : hedProof es s = ps at *
  clear hps ho
  have hbz := fun a ha => (hbl a ha).1
  simp only [World.size_alloc] at hbz
  have HP : Hid (RowA _ (w4.heap.size + 1) ap ps) := ⟨hrr, hbz⟩
  clear hrr hbl hbz
  go_wp2_with fail
  refine (c116 r (0 + 260 + 30) 6 _ (by omega) (by omega) (unhide HRd)).mono ?_
  rintro e w6 ⟨b1, rfl, hr, hg⟩
  (try clear z0 z0f z1 z1f z2 z2f z3 z3f q0 q0f q1 q1f q2 q2f x0 x0f x1 x1f x2 x2f x3 x3f y0 y0f y1 y1f y2 y2f)
  replace HB := hide (below_gr (unhide HB) hg (by omega))
  replace HZ := hide ((unhide HZ).kg hg (by omega))
  replace HQ := hide ((unhide HQ).kg hg (by omega))
  replace HO := hide ((unhide HO).kg hg (by omega))
  replace HL := hide ((unhide HL).kg hg (by omega))
  replace HX := hide ((unhide HX).kg hg (by omega))
  replace HY := hide ((unhide HY).kg hg (by omega))
  replace HP := hide ((unhide HP).kg hg (by omega))
  replace HRd := hide hr
  clear hr hg
  have z0 := (unhide HZ).cell 0 rfl
  have z0f := (unhide HZ).frozen 0 rfl
  have z1 := (unhide HZ).cell 1 rfl
  have z1f := (unhide HZ).frozen 1 rfl
  have z2 := (unhide HZ).cell 2 rfl
  have z2f := (unhide HZ).frozen 2 rfl
  have z3 := (unhide HZ).cell 3 rfl
  have z3f := (unhide HZ).frozen 3 rfl
  have q0 := (unhide HQ).cell 0 rfl
  have q0f := (unhide HQ).frozen 0 rfl
  have q1 := (unhide HQ).cell 1 rfl
  have q1f := (unhide HQ).frozen 1 rfl
  have q2 := (unhide HQ).cell 2 rfl
  have q2f := (unhide HQ).frozen 2 rfl
  have x0 := (unhide HX).cell 0 rfl
  have x0f := (unhide HX).frozen 0 rfl
  have x1 := (unhide HX).cell 1 rfl
  have x1f := (unhide HX).frozen 1 rfl
  have x2 := (unhide HX).cell 2 rfl
  have x2f := (unhide HX).frozen 2 rfl
  have x3 := (unhide HX).cell 3 rfl
  have x3f := (unhide HX).frozen 3 rfl
  have y0 := (unhide HY).cell 0 rfl
  have y0f := (unhide HY).frozen 0 rfl
  have y1 := (unhide HY).cell 1 rfl
  have y1f := (unhide HY).frozen 1 rfl
  have y2 := (unhide HY).cell 2 rfl
  have y2f := (unhide HY).frozen 2 rfl
  cases b1
  case false =>
    (try clear z0 z0f z1 z1f z2 z2f z3 z3f q0 q0f q1 q1f q2 q2f x0 x0f x1 x1f x2 x2f x3 x3f y0 y0f y1 y1f y2 y2f)
    clear HO
    have z0 := (unhide HZ).cell 0 rfl
    have z0f := (unhide HZ).frozen 0 rfl
    have z1 := (unhide HZ).cell 1 rfl
    have z1f := (unhide HZ).frozen 1 rfl
    have z2 := (unhide HZ).cell 2 rfl
    have z2f := (unhide HZ).frozen 2 rfl
    have z3 := (unhide HZ).cell 3 rfl
    have z3f := (unhide HZ).frozen 3 rfl
    have q0 := (unhide HQ).cell 0 rfl
    have q0f := (unhide HQ).frozen 0 rfl
    have q1 := (unhide HQ).cell 1 rfl
    have q1f := (unhide HQ).frozen 1 rfl
    have q2 := (unhide HQ).cell 2 rfl
    have q2f := (unhide HQ).frozen 2 rfl
    have x0 := (unhide HX).cell 0 rfl
    have x0f := (unhide HX).frozen 0 rfl
    have x1 := (unhide HX).cell 1 rfl
    have x1f := (unhide HX).frozen 1 rfl
    have x2 := (unhide HX).cell 2 rfl
    have x2f := (unhide HX).frozen 2 rfl
    have x3 := (unhide HX).cell 3 rfl
    have x3f := (unhide HX).frozen 3 rfl
    have y0 := (unhide HY).cell 0 rfl
    have y0f := (unhide HY).frozen 0 rfl
    have y1 := (unhide HY).cell 1 rfl
    have y1f := (unhide HY).frozen 1 rfl
    have y2 := (unhide HY).cell 2 rfl
    have y2f := (unhide HY).frozen 2 rfl
    go_wp2_with fail
    refine (c116 r (0 + 260 + 30 + 1) 6 _ (by omega) (by omega) (unhide HRd)).mono ?_
    rintro e w7 ⟨b2, rfl, hr, hg⟩
    (try clear z0 z0f z1 z1f z2 z2f z3 z3f q0 q0f q1 q1f q2 q2f x0 x0f x1 x1f x2 x2f x3 x3f y0 y0f y1 y1f y2 y2f)
    replace HB := hide (below_gr (unhide HB) hg (by omega))
    replace HZ := hide ((unhide HZ).kg hg (by omega))
    replace HQ := hide ((unhide HQ).kg hg (by omega))
    replace HL := hide ((unhide HL).kg hg (by omega))
    replace HX := hide ((unhide HX).kg hg (by omega))
    replace HY := hide ((unhide HY).kg hg (by omega))
    replace HP := hide ((unhide HP).kg hg (by omega))
    replace HRd := hide hr
    clear hr hg
    have z0 := (unhide HZ).cell 0 rfl
    have z0f := (unhide HZ).frozen 0 rfl
    have z1 := (unhide HZ).cell 1 rfl
    have z1f := (unhide HZ).frozen 1 rfl
    have z2 := (unhide HZ).cell 2 rfl
    have z2f := (unhide HZ).frozen 2 rfl
    have z3 := (unhide HZ).cell 3 rfl
    have z3f := (unhide HZ).frozen 3 rfl
    have q0 := (unhide HQ).cell 0 rfl
    have q0f := (unhide HQ).frozen 0 rfl
    have q1 := (unhide HQ).cell 1 rfl
    have q1f := (unhide HQ).frozen 1 rfl
    have q2 := (unhide HQ).cell 2 rfl
    have q2f := (unhide HQ).frozen 2 rfl
    have x0 := (unhide HX).cell 0 rfl
    have x0f := (unhide HX).frozen 0 rfl
    have x1 := (unhide HX).cell 1 rfl
    have x1f := (unhide HX).frozen 1 rfl
    have x2 := (unhide HX).cell 2 rfl
    have x2f := (unhide HX).frozen 2 rfl
    have x3 := (unhide HX).cell 3 rfl
    have x3f := (unhide HX).frozen 3 rfl
    have y0 := (unhide HY).cell 0 rfl
    have y0f := (unhide HY).frozen 0 rfl
    have y1 := (unhide HY).cell 1 rfl
    have y1f := (unhide HY).frozen 1 rfl
    have y2 := (unhide HY).cell 2 rfl
    have y2f := (unhide HY).frozen 2 rfl
    cases b2
    case false =>
      go_wp2_with fail
      go_region
      all_goals
        go_wp2_with fail
        exact bodyPost_ret (v := .tuple #[gatV s l o (.slice ag zs.length cg), hedV s' l' o', .slice ap (ps.length) (capp)]) (by simp [results, Try.results54, go_sem, z0, z1, z2, z3, q0, q1, q2]) rfl ⟨_, _, _, zs, ag, cg, _, _, _, ps, _, _, _, rfl, hzl, hcg, hzg, ((RowA.oth (RowA.oth (RowA.oth (RowA.oth (RowA.oth (RowA.oth (RowA.oth (unhide HL) _ (by omega)) _ (by omega)) _ (by omega)) _ (by omega)) _ (by omega)) _ (by omega)) _ (by omega)).bel (below_drew _)).1, rfl, by omega, by omega, ((RowA.oth (RowA.oth (RowA.oth (RowA.oth (RowA.oth (RowA.oth (RowA.oth (unhide HP) _ (by omega)) _ (by omega)) _ (by omega)) _ (by omega)) _ (by omega)) _ (by omega)) _ (by omega)).bel (below_drew _)).1, (below_sc (below_sc (below_sc (below_sc (below_sc (below_sc (below_sc (unhide HB) (by dsimp only; omega)) (by dsimp only; omega)) (by dsimp only; omega)) (by dsimp only; omega)) (by dsimp only; omega)) (by dsimp only; omega)) (by dsimp only; omega)).drew⟩
    by_cases hz : ps = []
    case pos =>
      subst hz
      have hcp0 : (0 : Nat) ≤ capp := Nat.zero_le _
      go_wp2_with fail
      go_region
      all_goals
        go_wp2_with fail
        exact bodyPost_ret (v := .tuple #[gatV s l o (.slice ag zs.length cg), hedV s' l' o', .slice ap (0) (capp)]) (by simp [results, Try.results54, go_sem, z0, z1, z2, z3, q0, q1, q2]) rfl ⟨_, _, _, zs, ag, cg, _, _, _, [], _, _, _, rfl, hzl, hcg, hzg, ((RowA.oth (RowA.oth (RowA.oth (RowA.oth (RowA.oth (RowA.oth (RowA.oth (unhide HL) _ (by omega)) _ (by omega)) _ (by omega)) _ (by omega)) _ (by omega)) _ (by omega)) _ (by omega)).bel (below_drew _)).1, rfl, by omega, by omega, ((RowA.oth (RowA.oth (RowA.oth (RowA.oth (RowA.oth (RowA.oth (RowA.oth (unhide HP) _ (by omega)) _ (by omega)) _ (by omega)) _ (by omega)) _ (by omega)) _ (by omega)) _ (by omega)).bel (below_drew _)).1, (below_sc (below_sc (below_sc (below_sc (below_sc (below_sc (below_sc (unhide HB) (by dsimp only; omega)) (by dsimp only; omega)) (by dsimp only; omega)) (by dsimp only; omega)) (by dsimp only; omega)) (by dsimp only; omega)) (by dsimp only; omega)).drew⟩
    have hpos : 0 < ps.length := List.length_pos_iff.2 hz
    obtain ⟨b, off, rfl, -⟩ := (unhide HP).1.2 hz
    have HPD := hide ((unhide HP).drop 1)
    have hgt : (0 : Int) < (ps.length : Int) := by omega
    clear hz
    by_cases hc1 : capp = 1
    case pos =>
      subst hc1
      go_wp2_with fail
      go_region
      all_goals
        go_wp2_with fail
        exact bodyPost_ret (v := .tuple #[gatV s l o (.slice ag zs.length cg), hedV s' l' o', .slice (some ⟨b, off, none⟩) (0) (0)]) (by simp [results, Try.results54, go_sem, z0, z1, z2, z3, q0, q1, q2]) rfl ⟨_, _, _, zs, ag, cg, _, _, _, [], _, _, _, rfl, hzl, hcg, hzg, ((RowA.oth (RowA.oth (RowA.oth (RowA.oth (RowA.oth (RowA.oth (RowA.oth (unhide HL) _ (by omega)) _ (by omega)) _ (by omega)) _ (by omega)) _ (by omega)) _ (by omega)) _ (by omega)).bel (below_drew _)).1, rfl, by omega, by omega, (Row.nil _ _), (below_sc (below_sc (below_sc (below_sc (below_sc (below_sc (below_sc (unhide HB) (by dsimp only; omega)) (by dsimp only; omega)) (by dsimp only; omega)) (by dsimp only; omega)) (by dsimp only; omega)) (by dsimp only; omega)) (by dsimp only; omega)).drew⟩
    go_wp2_with fail
    go_region
    all_goals
      go_wp2_with fail
      exact bodyPost_ret (v := .tuple #[gatV s l o (.slice ag zs.length cg), hedV s' l' o', .slice (some ⟨b, off + 1, none⟩) (ps.length - 1) (capp - 1)]) (by simp [results, Try.results54, go_sem, z0, z1, z2, z3, q0, q1, q2]) rfl ⟨_, _, _, zs, ag, cg, _, _, _, (ps.drop 1), _, _, _, rfl, hzl, hcg, hzg, ((RowA.oth (RowA.oth (RowA.oth (RowA.oth (RowA.oth (RowA.oth (RowA.oth (unhide HL) _ (by omega)) _ (by omega)) _ (by omega)) _ (by omega)) _ (by omega)) _ (by omega)) _ (by omega)).bel (below_drew _)).1, by rw [List.length_drop], by omega, by omega, ((RowA.oth (RowA.oth (RowA.oth (RowA.oth (RowA.oth (RowA.oth (RowA.oth (unhide HPD) _ (by omega)) _ (by omega)) _ (by omega)) _ (by omega)) _ (by omega)) _ (by omega)) _ (by omega)).bel (below_drew _)).1, (below_sc (below_sc (below_sc (below_sc (below_sc (below_sc (below_sc (unhide HB) (by dsimp only; omega)) (by dsimp only; omega)) (by dsimp only; omega)) (by dsimp only; omega)) (by dsimp only; omega)) (by dsimp only; omega)) (by dsimp only; omega)).drew⟩
  go_wp2_with fail
  refine (c138 r (0 + 260 + 30 + 1) 3 es ales es.length caples w1.heap.size _ (by omega) (by omega) (unhide HRd) rfl hesl hcles hbasees (unhide HO)).mono ?_
  rintro e w7 ⟨s2, l2, o2, rfl, hr, hg⟩
  (try clear z0 z0f z1 z1f z2 z2f z3 z3f q0 q0f q1 q1f q2 q2f x0 x0f x1 x1f x2 x2f x3 x3f y0 y0f y1 y1f y2 y2f)
  replace HB := hide (below_gr (unhide HB) hg (by omega))
  replace HZ := hide ((unhide HZ).kg hg (by omega))
  replace HQ := hide ((unhide HQ).kg hg (by omega))
  replace HO := hide ((unhide HO).kg hg (by omega))
  replace HL := hide ((unhide HL).kg hg (by omega))
  replace HX := hide ((unhide HX).kg hg (by omega))
  replace HY := hide ((unhide HY).kg hg (by omega))
  replace HP := hide ((unhide HP).kg hg (by omega))
  replace HRd := hide hr
  clear hr hg
  have z0 := (unhide HZ).cell 0 rfl
  have z0f := (unhide HZ).frozen 0 rfl
  have z1 := (unhide HZ).cell 1 rfl
  have z1f := (unhide HZ).frozen 1 rfl
  have z2 := (unhide HZ).cell 2 rfl
  have z2f := (unhide HZ).frozen 2 rfl
  have z3 := (unhide HZ).cell 3 rfl
  have z3f := (unhide HZ).frozen 3 rfl
  have q0 := (unhide HQ).cell 0 rfl
  have q0f := (unhide HQ).frozen 0 rfl
  have q1 := (unhide HQ).cell 1 rfl
  have q1f := (unhide HQ).frozen 1 rfl
  have q2 := (unhide HQ).cell 2 rfl
  have q2f := (unhide HQ).frozen 2 rfl
  have x0 := (unhide HX).cell 0 rfl
  have x0f := (unhide HX).frozen 0 rfl
  have x1 := (unhide HX).cell 1 rfl
  have x1f := (unhide HX).frozen 1 rfl
  have x2 := (unhide HX).cell 2 rfl
  have x2f := (unhide HX).frozen 2 rfl
  have x3 := (unhide HX).cell 3 rfl
  have x3f := (unhide HX).frozen 3 rfl
  have y0 := (unhide HY).cell 0 rfl
  have y0f := (unhide HY).frozen 0 rfl
  have y1 := (unhide HY).cell 1 rfl
  have y1f := (unhide HY).frozen 1 rfl
  have y2 := (unhide HY).cell 2 rfl
  have y2f := (unhide HY).frozen 2 rfl
  (try clear z0 z0f z1 z1f z2 z2f z3 z3f q0 q0f q1 q1f q2 q2f x0 x0f x1 x1f x2 x2f x3 x3f y0 y0f y1 y1f y2 y2f)
  clear HO
  have z0 := (unhide HZ).cell 0 rfl
  have z0f := (unhide HZ).frozen 0 rfl
  have z1 := (unhide HZ).cell 1 rfl
  have z1f := (unhide HZ).frozen 1 rfl
  have z2 := (unhide HZ).cell 2 rfl
  have z2f := (unhide HZ).frozen 2 rfl
  have z3 := (unhide HZ).cell 3 rfl
  have z3f := (unhide HZ).frozen 3 rfl
  have q0 := (unhide HQ).cell 0 rfl
  have q0f := (unhide HQ).frozen 0 rfl
  have q1 := (unhide HQ).cell 1 rfl
  have q1f := (unhide HQ).frozen 1 rfl
  have q2 := (unhide HQ).cell 2 rfl
  have q2f := (unhide HQ).frozen 2 rfl
  have x0 := (unhide HX).cell 0 rfl
  have x0f := (unhide HX).frozen 0 rfl
  have x1 := (unhide HX).cell 1 rfl
  have x1f := (unhide HX).frozen 1 rfl
  have x2 := (unhide HX).cell 2 rfl
  have x2f := (unhide HX).frozen 2 rfl
  have x3 := (unhide HX).cell 3 rfl
  have x3f := (unhide HX).frozen 3 rfl
  have y0 := (unhide HY).cell 0 rfl
  have y0f := (unhide HY).frozen 0 rfl
  have y1 := (unhide HY).cell 1 rfl
  have y1f := (unhide HY).frozen 1 rfl
  have y2 := (unhide HY).cell 2 rfl
  have y2f := (unhide HY).frozen 2 rfl
  go_wp2_with fail
  (try clear z0 z0f z1 z1f z2 z2f z3 z3f q0 q0f q1 q1f q2 q2f x0 x0f x1 x1f x2 x2f x3 x3f y0 y0f y1 y1f y2 y2f)
  replace HRd := hide (((((unhide HRd).oth (i := 0) (g := w4.heap.size) (.int .i64 s2) hzHY).oth (i := 1) (g := w4.heap.size) (.int .i64 l2) hzHY).oth (i := 2) (g := w4.heap.size) (.int .i64 o2) hzHY))
  replace HB := hide ((below_sc (p := ⟨w4.heap.size, 2, none⟩) (v := .int .i64 o2) (below_sc (p := ⟨w4.heap.size, 1, none⟩) (v := .int .i64 l2) (below_sc (p := ⟨w4.heap.size, 0, none⟩) (v := .int .i64 s2) (unhide HB) (by dsimp only; omega)) (by dsimp only; omega)) (by dsimp only; omega)))
  replace HZ := hide (((((unhide HZ).oth (i := 0) (g' := w4.heap.size) (.int .i64 s2) (by omega)).oth (i := 1) (g' := w4.heap.size) (.int .i64 l2) (by omega)).oth (i := 2) (g' := w4.heap.size) (.int .i64 o2) (by omega)))
  replace HQ := hide (((((unhide HQ).oth (i := 0) (g' := w4.heap.size) (.int .i64 s2) (by omega)).oth (i := 1) (g' := w4.heap.size) (.int .i64 l2) (by omega)).oth (i := 2) (g' := w4.heap.size) (.int .i64 o2) (by omega)))
  replace HX := hide (((((unhide HX).oth (i := 0) (g' := w4.heap.size) (.int .i64 s2) (by omega)).oth (i := 1) (g' := w4.heap.size) (.int .i64 l2) (by omega)).oth (i := 2) (g' := w4.heap.size) (.int .i64 o2) (by omega)))
  replace HP := hide (((((unhide HP).oth (i := 0) (g := w4.heap.size) (.int .i64 s2) (by omega)).oth (i := 1) (g := w4.heap.size) (.int .i64 l2) (by omega)).oth (i := 2) (g := w4.heap.size) (.int .i64 o2) (by omega)))
  replace HL := hide ((rowa_young (rowa_young (rowa_young (unhide HL) hlY 0 (.int .i64 s2)) hlY 1 (.int .i64 l2)) hlY 2 (.int .i64 o2)))
  have hY2 : Box _ _ [.int .i64 s2, .int .i64 l2, .int .i64 o2] := (box_put (box_put (box_put (unhide HY) 0 (.int .i64 s2) (by simp)) 1 (.int .i64 l2) (by simp)) 2 (.int .i64 o2) (by simp))
  clear HY
  have HY := hide hY2
  clear hY2
  refine (c116 r (0 + 260 + 30 + 1 + 10) 6 _ (by omega) (by omega) (unhide HRd)).mono ?_
  rintro e w8 ⟨b2, rfl, hr, hg⟩
  (try clear z0 z0f z1 z1f z2 z2f z3 z3f q0 q0f q1 q1f q2 q2f x0 x0f x1 x1f x2 x2f x3 x3f y0 y0f y1 y1f y2 y2f)
  replace HB := hide (below_gr (unhide HB) hg (by omega))
  replace HZ := hide ((unhide HZ).kg hg (by omega))
  replace HQ := hide ((unhide HQ).kg hg (by omega))
  replace HL := hide ((unhide HL).kg hg (by omega))
  replace HX := hide ((unhide HX).kg hg (by omega))
  replace HY := hide ((unhide HY).kg hg (by omega))
  replace HP := hide ((unhide HP).kg hg (by omega))
  replace HRd := hide hr
  clear hr hg
  have z0 := (unhide HZ).cell 0 rfl
  have z0f := (unhide HZ).frozen 0 rfl
  have z1 := (unhide HZ).cell 1 rfl
  have z1f := (unhide HZ).frozen 1 rfl
  have z2 := (unhide HZ).cell 2 rfl
  have z2f := (unhide HZ).frozen 2 rfl
  have z3 := (unhide HZ).cell 3 rfl
  have z3f := (unhide HZ).frozen 3 rfl
  have q0 := (unhide HQ).cell 0 rfl
  have q0f := (unhide HQ).frozen 0 rfl
  have q1 := (unhide HQ).cell 1 rfl
  have q1f := (unhide HQ).frozen 1 rfl
  have q2 := (unhide HQ).cell 2 rfl
  have q2f := (unhide HQ).frozen 2 rfl
  have x0 := (unhide HX).cell 0 rfl
  have x0f := (unhide HX).frozen 0 rfl
  have x1 := (unhide HX).cell 1 rfl
  have x1f := (unhide HX).frozen 1 rfl
  have x2 := (unhide HX).cell 2 rfl
  have x2f := (unhide HX).frozen 2 rfl
  have x3 := (unhide HX).cell 3 rfl
  have x3f := (unhide HX).frozen 3 rfl
  have y0 := (unhide HY).cell 0 rfl
  have y0f := (unhide HY).frozen 0 rfl
  have y1 := (unhide HY).cell 1 rfl
  have y1f := (unhide HY).frozen 1 rfl
  have y2 := (unhide HY).cell 2 rfl
  have y2f := (unhide HY).frozen 2 rfl
  cases b2
  case false =>
    go_wp2_with fail
    go_region
    all_goals
      go_wp2_with fail
      exact bodyPost_ret (v := .tuple #[gatV s l o (.slice ag zs.length cg), hedV s2 l2 o2, .slice ap (ps.length) (capp)]) (by simp [results, Try.results54, go_sem, z0, z1, z2, z3, q0, q1, q2]) rfl ⟨_, _, _, zs, ag, cg, _, _, _, ps, _, _, _, rfl, hzl, hcg, hzg, ((RowA.oth (RowA.oth (RowA.oth (RowA.oth (RowA.oth (RowA.oth (RowA.oth (unhide HL) _ (by omega)) _ (by omega)) _ (by omega)) _ (by omega)) _ (by omega)) _ (by omega)) _ (by omega)).bel (below_drew _)).1, rfl, by omega, by omega, ((RowA.oth (RowA.oth (RowA.oth (RowA.oth (RowA.oth (RowA.oth (RowA.oth (unhide HP) _ (by omega)) _ (by omega)) _ (by omega)) _ (by omega)) _ (by omega)) _ (by omega)) _ (by omega)).bel (below_drew _)).1, (below_sc (below_sc (below_sc (below_sc (below_sc (below_sc (below_sc (unhide HB) (by dsimp only; omega)) (by dsimp only; omega)) (by dsimp only; omega)) (by dsimp only; omega)) (by dsimp only; omega)) (by dsimp only; omega)) (by dsimp only; omega)).drew⟩
  by_cases hz : ps = []
  case pos =>
    subst hz
    have hcp0 : (0 : Nat) ≤ capp := Nat.zero_le _
    go_wp2_with fail
    go_region
    all_goals
      go_wp2_with fail
      exact bodyPost_ret (v := .tuple #[gatV s l o (.slice ag zs.length cg), hedV s2 l2 o2, .slice ap (0) (capp)]) (by simp [results, Try.results54, go_sem, z0, z1, z2, z3, q0, q1, q2]) rfl ⟨_, _, _, zs, ag, cg, _, _, _, [], _, _, _, rfl, hzl, hcg, hzg, ((RowA.oth (RowA.oth (RowA.oth (RowA.oth (RowA.oth (RowA.oth (RowA.oth (unhide HL) _ (by omega)) _ (by omega)) _ (by omega)) _ (by omega)) _ (by omega)) _ (by omega)) _ (by omega)).bel (below_drew _)).1, rfl, by omega, by omega, ((RowA.oth (RowA.oth (RowA.oth (RowA.oth (RowA.oth (RowA.oth (RowA.oth (unhide HP) _ (by omega)) _ (by omega)) _ (by omega)) _ (by omega)) _ (by omega)) _ (by omega)) _ (by omega)).bel (below_drew _)).1, (below_sc (below_sc (below_sc (below_sc (below_sc (below_sc (below_sc (unhide HB) (by dsimp only; omega)) (by dsimp only; omega)) (by dsimp only; omega)) (by dsimp only; omega)) (by dsimp only; omega)) (by dsimp only; omega)) (by dsimp only; omega)).drew⟩
  have hpos : 0 < ps.length := List.length_pos_iff.2 hz
  obtain ⟨b, off, rfl, -⟩ := (unhide HP).1.2 hz
  have HPD := hide ((unhide HP).drop 1)
  have hgt : (0 : Int) < (ps.length : Int) := by omega
  clear hz
  by_cases hc1 : capp = 1
  case pos =>
    subst hc1
    go_wp2_with fail
    go_region
    all_goals
      go_wp2_with fail
      exact bodyPost_ret (v := .tuple #[gatV s l o (.slice ag zs.length cg), hedV s2 l2 o2, .slice (some ⟨b, off, none⟩) (0) (0)]) (by simp [results, Try.results54, go_sem, z0, z1, z2, z3, q0, q1, q2]) rfl ⟨_, _, _, zs, ag, cg, _, _, _, [], _, _, _, rfl, hzl, hcg, hzg, ((RowA.oth (RowA.oth (RowA.oth (RowA.oth (RowA.oth (RowA.oth (RowA.oth (unhide HL) _ (by omega)) _ (by omega)) _ (by omega)) _ (by omega)) _ (by omega)) _ (by omega)) _ (by omega)).bel (below_drew _)).1, rfl, by omega, by omega, (Row.nil _ _), (below_sc (below_sc (below_sc (below_sc (below_sc (below_sc (below_sc (unhide HB) (by dsimp only; omega)) (by dsimp only; omega)) (by dsimp only; omega)) (by dsimp only; omega)) (by dsimp only; omega)) (by dsimp only; omega)) (by dsimp only; omega)).drew⟩
  go_wp2_with fail
  go_region
  all_goals
    go_wp2_with fail
    exact bodyPost_ret (v := .tuple #[gatV s l o (.slice ag zs.length cg), hedV s2 l2 o2, .slice (some ⟨b, off + 1, none⟩) (ps.length - 1) (capp - 1)]) (by simp [results, Try.results54, go_sem, z0, z1, z2, z3, q0, q1, q2]) rfl ⟨_, _, _, zs, ag, cg, _, _, _, (ps.drop 1), _, _, _, rfl, hzl, hcg, hzg, ((RowA.oth (RowA.oth (RowA.oth (RowA.oth (RowA.oth (RowA.oth (RowA.oth (unhide HL) _ (by omega)) _ (by omega)) _ (by omega)) _ (by omega)) _ (by omega)) _ (by omega)) _ (by omega)).bel (below_drew _)).1, by rw [List.length_drop], by omega, by omega, ((RowA.oth (RowA.oth (RowA.oth (RowA.oth (RowA.oth (RowA.oth (RowA.oth (unhide HPD) _ (by omega)) _ (by omega)) _ (by omega)) _ (by omega)) _ (by omega)) _ (by omega)) _ (by omega)).bel (below_drew _)).1, (below_sc (below_sc (below_sc (below_sc (below_sc (below_sc (below_sc (unhide HB) (by dsimp only; omega)) (by dsimp only; omega)) (by dsimp only; omega)) (by dsimp only; omega)) (by dsimp only; omega)) (by dsimp only; omega)) (by dsimp only; omega)).drew⟩
end Go.Proofs.Ytmlbphmbffkdnaa
