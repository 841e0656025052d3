/-
  The walk of the exact law FnExactGatNew: it answers true, and nothing that was there is written.
-/
import Derived.Test.YtdpkdcdieajkbaaGatn
namespace Go.Proofs.Ytdpkdcdieajkbaa
open Go.RowKit
set_option linter.unusedVariables false
set_option maxRecDepth 100000

set_option maxHeartbeats 8000000 in
theorem law19 (w : World) : Calls Try.prog 19 #[] w (Holds w) := by
  have HB := hide (Below.refl w.heap.size w)
  generalize hs : hS [] = s at *
  generalize hl : hL [] = l at *
  generalize ho : hO [] = o at *
  have HS := hide hs
  have HL := hide hl
  have HO := hide ho
  clear hs hl ho
  go_enter Try.func19, Try.ntmps19
  go_wp2_with fail
  refine (c95 _).mono ?_
  rintro e w1 ⟨v, rfl, ho, hb⟩
  rw [unhide HS, unhide HL, unhide HO]
  obtain ⟨aHW, cHW, rfl, hcHW, hzHW, -, hbkHW⟩ := ho.any0
  replace HB := hide (below_tr (unhide HB) hb)
  have HW := hide (ho)
  clear hb ho
  replace HB := hide (below_al (o := .cells #[.int .i64 s, .int .i64 l, .int .i64 o, .slice aHW 0 cHW] 41) (unhide HB))
  replace HW := hide ((unhide HW).bel (below_a (.cells #[.int .i64 s, .int .i64 l, .int .i64 o, .slice aHW 0 cHW] 41)))
  have HX := hide (box_new w1 [.int .i64 s, .int .i64 l, .int .i64 o, .slice aHW 0 cHW] 41 (by simp [Value.oneCell']))
  have x0 := (unhide HX).cell 0 rfl
  have x1 := (unhide HX).cell 1 rfl
  have x2 := (unhide HX).cell 2 rfl
  have x3 := (unhide HX).cell 3 rfl
  go_wp2_with fail
  have hgz := (unhide HX).lt
  have HWS := hide (unhide HB).size
  simp only [World.size_alloc] at HWS
  refine (c96 _).mono ?_
  rintro e w2 ⟨v, rfl, ho, hb⟩
  rw [unhide HS, unhide HL, unhide HO]
  obtain ⟨aHG, cHG, rfl, hcHG, hzHG, -, hbkHG⟩ := ho.any0
  (try clear x0 x1 x2 x3)
  replace HB := hide (below_tr (unhide HB) hb)
  replace HW := hide ((unhide HW).bel hb)
  replace HX := hide ((unhide HX).bel hb)
  have HG := hide (ho)
  clear hb ho
  have x0 := (unhide HX).cell 0 rfl
  have x1 := (unhide HX).cell 1 rfl
  have x2 := (unhide HX).cell 2 rfl
  have x3 := (unhide HX).cell 3 rfl
  (try clear x0 x1 x2 x3)
  replace HB := hide (below_al (o := .cells #[.int .i64 s, .int .i64 l, .int .i64 o, .slice aHG 0 cHG] 41) (unhide HB))
  replace HW := hide ((unhide HW).bel (below_a (.cells #[.int .i64 s, .int .i64 l, .int .i64 o, .slice aHG 0 cHG] 41)))
  replace HX := hide ((unhide HX).bel (below_a (.cells #[.int .i64 s, .int .i64 l, .int .i64 o, .slice aHG 0 cHG] 41)))
  replace HG := hide ((unhide HG).bel (below_a (.cells #[.int .i64 s, .int .i64 l, .int .i64 o, .slice aHG 0 cHG] 41)))
  have HY := hide (box_new w2 [.int .i64 s, .int .i64 l, .int .i64 o, .slice aHG 0 cHG] 41 (by simp [Value.oneCell']))
  have x0 := (unhide HX).cell 0 rfl
  have x1 := (unhide HX).cell 1 rfl
  have x2 := (unhide HX).cell 2 rfl
  have x3 := (unhide HX).cell 3 rfl
  have y0 := (unhide HY).cell 0 rfl
  have y1 := (unhide HY).cell 1 rfl
  have y2 := (unhide HY).cell 2 rfl
  have y3 := (unhide HY).cell 3 rfl
  go_wp2_with fail
  refine (sameG s l o [] aHG aHW 0 cHG cHW _ rfl (by omega) ((unhide HG).rd rfl) ((unhide HW).rd rfl)).mono ?_
  rintro e w3 ⟨rfl, hb⟩
  (try clear x0 x1 x2 x3 y0 y1 y2 y3)
  replace HB := hide (below_tr (unhide HB) hb)
  replace HW := hide ((unhide HW).bel hb)
  replace HX := hide ((unhide HX).bel hb)
  replace HG := hide ((unhide HG).bel hb)
  replace HY := hide ((unhide HY).bel hb)
  clear hb
  have x0 := (unhide HX).cell 0 rfl
  have x1 := (unhide HX).cell 1 rfl
  have x2 := (unhide HX).cell 2 rfl
  have x3 := (unhide HX).cell 3 rfl
  have y0 := (unhide HY).cell 0 rfl
  have y1 := (unhide HY).cell 1 rfl
  have y2 := (unhide HY).cell 2 rfl
  have y3 := (unhide HY).cell 3 rfl
  go_wp2_with fail
  have hnn : ¬ ((0 : Int) + 1 < 0) := by omega
  refine (markG s l o [] _ aHG 0 cHG _ rfl (by omega) (unhide HG)).mono ?_
  rintro e w4 ⟨rfl, hh, hg⟩
  (try clear x0 x1 x2 x3 y0 y1 y2 y3)
  have hapart : ∀ q, (Value.slice aHG 0 cHG).ownBlock = some q → w1.heap.size + 1 ≤ q := fun q hq => by obtain ⟨a, ha, rfl⟩ := slice_block hq; have := (hbkHG a ha).1; simp only [World.size_alloc] at this; omega
  have hbv : ∀ a, aHW = some a → a.block < w1.heap.size := fun a ha => (hbkHW a ha).2
  replace HW := hide ((unhide HW).kpt hg (fun q hq e => by obtain ⟨a, ha, rfl⟩ := slice_block hq; have h1 := hbv a ha; have h2 := hapart _ e.symm; omega))
  replace HX := hide ((unhide HX).kpt hg (fun e => by have h2 := hapart _ e.symm; omega))
  have hy2 : ∀ q, (Value.slice aHG 0 cHG).ownBlock = some q → q < w2.heap.size := fun q hq => by obtain ⟨a, ha, rfl⟩ := slice_block hq; exact (hbkHG a ha).2
  replace HY := hide ((unhide HY).kpt hg (fun e => by have h2 := hy2 _ e.symm; omega))
  replace HB := hide (grown_below (unhide HB) hg (fun q hq => by have h2 := hapart q hq; have := (unhide HWS); omega))
  have HH := hide hh
  clear hh hg HG
  have x0 := (unhide HX).cell 0 rfl
  have x1 := (unhide HX).cell 1 rfl
  have x2 := (unhide HX).cell 2 rfl
  have x3 := (unhide HX).cell 3 rfl
  have y0 := (unhide HY).cell 0 rfl
  have y1 := (unhide HY).cell 1 rfl
  have y2 := (unhide HY).cell 2 rfl
  have y3 := (unhide HY).cell 3 rfl
  go_wp2_with fail
  refine (heldG s l o [] aHG 0 cHG _ rfl (by omega) (unhide HH)).mono ?_
  rintro e w5 ⟨rfl, hb⟩
  (try clear x0 x1 x2 x3 y0 y1 y2 y3)
  replace HB := hide (below_tr (unhide HB) hb)
  replace HW := hide ((unhide HW).bel hb)
  replace HX := hide ((unhide HX).bel hb)
  replace HY := hide ((unhide HY).bel hb)
  replace HH := hide ((unhide HH).bel hb)
  clear hb
  have x0 := (unhide HX).cell 0 rfl
  have x1 := (unhide HX).cell 1 rfl
  have x2 := (unhide HX).cell 2 rfl
  have x3 := (unhide HX).cell 3 rfl
  have y0 := (unhide HY).cell 0 rfl
  have y1 := (unhide HY).cell 1 rfl
  have y2 := (unhide HY).cell 2 rfl
  have y3 := (unhide HY).cell 3 rfl
  go_wp2_with fail
  refine (c96 _).mono ?_
  rintro e w6 ⟨v, rfl, ho, hb⟩
  rw [unhide HS, unhide HL, unhide HO]
  obtain ⟨aHV, cHV, rfl, hcHV, hzHV, -, hbkHV⟩ := ho.any0
  (try clear x0 x1 x2 x3 y0 y1 y2 y3)
  replace HB := hide (below_tr (unhide HB) hb)
  replace HW := hide ((unhide HW).bel hb)
  replace HX := hide ((unhide HX).bel hb)
  replace HY := hide ((unhide HY).bel hb)
  replace HH := hide ((unhide HH).bel hb)
  have HV := hide (ho)
  clear hb ho
  have x0 := (unhide HX).cell 0 rfl
  have x1 := (unhide HX).cell 1 rfl
  have x2 := (unhide HX).cell 2 rfl
  have x3 := (unhide HX).cell 3 rfl
  have y0 := (unhide HY).cell 0 rfl
  have y1 := (unhide HY).cell 1 rfl
  have y2 := (unhide HY).cell 2 rfl
  have y3 := (unhide HY).cell 3 rfl
  (try clear x0 x1 x2 x3 y0 y1 y2 y3)
  replace HB := hide (below_al (o := .cells #[.int .i64 s, .int .i64 l, .int .i64 o, .slice aHV 0 cHV] 41) (unhide HB))
  replace HW := hide ((unhide HW).bel (below_a (.cells #[.int .i64 s, .int .i64 l, .int .i64 o, .slice aHV 0 cHV] 41)))
  replace HX := hide ((unhide HX).bel (below_a (.cells #[.int .i64 s, .int .i64 l, .int .i64 o, .slice aHV 0 cHV] 41)))
  replace HY := hide ((unhide HY).bel (below_a (.cells #[.int .i64 s, .int .i64 l, .int .i64 o, .slice aHV 0 cHV] 41)))
  replace HH := hide ((unhide HH).bel (below_a (.cells #[.int .i64 s, .int .i64 l, .int .i64 o, .slice aHV 0 cHV] 41)))
  replace HV := hide ((unhide HV).bel (below_a (.cells #[.int .i64 s, .int .i64 l, .int .i64 o, .slice aHV 0 cHV] 41)))
  have HQ := hide (box_new w6 [.int .i64 s, .int .i64 l, .int .i64 o, .slice aHV 0 cHV] 41 (by simp [Value.oneCell']))
  have x0 := (unhide HX).cell 0 rfl
  have x1 := (unhide HX).cell 1 rfl
  have x2 := (unhide HX).cell 2 rfl
  have x3 := (unhide HX).cell 3 rfl
  have y0 := (unhide HY).cell 0 rfl
  have y1 := (unhide HY).cell 1 rfl
  have y2 := (unhide HY).cell 2 rfl
  have y3 := (unhide HY).cell 3 rfl
  have q0 := (unhide HQ).cell 0 rfl
  have q1 := (unhide HQ).cell 1 rfl
  have q2 := (unhide HQ).cell 2 rfl
  have q3 := (unhide HQ).cell 3 rfl
  go_wp2_with fail
  refine (sameG s l o [] aHV aHW 0 cHV cHW _ rfl (by omega) ((unhide HV).rd rfl) ((unhide HW).rd rfl)).mono ?_
  rintro e w7 ⟨rfl, hb⟩
  (try clear x0 x1 x2 x3 y0 y1 y2 y3 q0 q1 q2 q3)
  replace HB := hide (below_tr (unhide HB) hb)
  replace HW := hide ((unhide HW).bel hb)
  replace HX := hide ((unhide HX).bel hb)
  replace HY := hide ((unhide HY).bel hb)
  replace HH := hide ((unhide HH).bel hb)
  clear HV HQ
  clear hb
  have x0 := (unhide HX).cell 0 rfl
  have x1 := (unhide HX).cell 1 rfl
  have x2 := (unhide HX).cell 2 rfl
  have x3 := (unhide HX).cell 3 rfl
  have y0 := (unhide HY).cell 0 rfl
  have y1 := (unhide HY).cell 1 rfl
  have y2 := (unhide HY).cell 2 rfl
  have y3 := (unhide HY).cell 3 rfl
  go_wp2_with fail
  refine (heldG s l o [] aHG 0 cHG _ rfl (by omega) (unhide HH)).mono ?_
  rintro e w8 ⟨rfl, hb⟩
  (try clear x0 x1 x2 x3 y0 y1 y2 y3)
  replace HB := hide (below_tr (unhide HB) hb)
  replace HW := hide ((unhide HW).bel hb)
  replace HX := hide ((unhide HX).bel hb)
  replace HY := hide ((unhide HY).bel hb)
  replace HH := hide ((unhide HH).bel hb)
  clear hb
  have x0 := (unhide HX).cell 0 rfl
  have x1 := (unhide HX).cell 1 rfl
  have x2 := (unhide HX).cell 2 rfl
  have x3 := (unhide HX).cell 3 rfl
  have y0 := (unhide HY).cell 0 rfl
  have y1 := (unhide HY).cell 1 rfl
  have y2 := (unhide HY).cell 2 rfl
  have y3 := (unhide HY).cell 3 rfl
  go_wp2_with fail
  go_ret
  exact ⟨rfl, unhide HB⟩
end Go.Proofs.Ytdpkdcdieajkbaa
