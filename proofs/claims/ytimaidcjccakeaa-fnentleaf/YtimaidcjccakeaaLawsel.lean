/-
  The walk of the law FnEntLeaf: at every code it answers true, and nothing that was there is written.
-/
import Derived.Test.YtimaidcjccakeaaDrg
import Derived.Test.YtimaidcjccakeaaLawshk
import Derived.Test.YtimaidcjccakeaaLogc
namespace Go.Proofs.Ytimaidcjccakeaa
open Go.RowKit
set_option linter.unusedVariables false
set_option maxRecDepth 100000

/-- an entry, drawn of a code -/
def EntC (w : World) (e : Ending) (w' : World) : Prop := ∃ k t u p : Int, e = .returned (entV k t u p) ∧ FitsE k t u p ∧ Below w.heap.size w w'
theorem leaf_77 (k t u p : Int) (h : 0 ≤ p ∧ p ≤ 60) : Tm.leaf [k, t, u, 77] ≠ Tm.leaf [k, t, u, p] := by
  unfold Tm.leaf Tm.leafTo
  simp only [List.foldl_cons, List.foldl_nil, List.length_cons, List.length_nil]
  generalize Tm.leafStep (Tm.leafStep (Tm.leafStep 7 k) t) u = m
  unfold Tm.leafStep
  omega
theorem ent_price {k t u p : Int} (h : Tm.entOk (k, t, u, p) = true) : 0 ≤ p ∧ p ≤ 60 := by
  have h2 := Tm.entOk_iff.1 h
  dsimp only at h2
  omega
theorem entLeaves_at {es : List Tm.Ent} {i : Nat} {a b c d : Int} (h : es[i]? = some (a, b, c, d)) : (Tm.entLeaves es).getD i 0 = Tm.leaf [a, b, c, d] := by
  unfold Tm.entLeaves
  simp [List.getD, h, Tm.entLeaf]

set_option maxHeartbeats 8000000 in
theorem c27 (bs : List Int) (ao : Option Addr) (n cap : Nat) (w : World) (hn : bs.length = n) (hc : n ≤ cap) (hm : cap ≤ maxLen) (hB : Bytes w ao bs) :
    Calls Try.prog 27 #[.slice ao n cap] w (EntC w) := by
  have HB := hide (Below.refl w.heap.size w)
  have HBY := hide hB
  clear hB
  replace HB := hide (below_al (o := .cells #[.int .i64 0, .int .i64 0, .int .i64 0, .int .i64 0] 24) (unhide HB))
  replace HBY := hide ((unhide HBY).bel (below_a (.cells #[.int .i64 0, .int .i64 0, .int .i64 0, .int .i64 0] 24)))
  have HZ := hide (box_new w [.int .i64 0, .int .i64 0, .int .i64 0, .int .i64 0] 24 (by simp [Value.oneCell']))
  (try simp only [World.size_alloc] at HZ)
  have z0 := (unhide HZ).cell 0 rfl
  have z0f := (unhide HZ).frozen 0 rfl
  have z1 := (unhide HZ).cell 1 rfl
  have z1f := (unhide HZ).frozen 1 rfl
  have z2 := (unhide HZ).cell 2 rfl
  have z2f := (unhide HZ).frozen 2 rfl
  have z3 := (unhide HZ).cell 3 rfl
  have z3f := (unhide HZ).frozen 3 rfl
  go_enter Try.func27, Try.ntmps27
  go_wp2_with fail
  refine (c129 bs ao n cap _ hn hc hm (unhide HBY)).mono ?_
  rintro e w1 ⟨rfl, hr, hb, hl1⟩
  (try clear z0 z0f z1 z1f z2 z2f z3 z3f)
  clear HBY
  replace HB := hide (below_tr (unhide HB) hb)
  replace HZ := hide ((unhide HZ).bel hb)
  (try simp only [World.size_alloc] at hr hl1)
  (try simp only [World.size_alloc])
  generalize hrr : w.heap.size + 1 = r at *
  have HRd := hide hr
  have HRR := hide hrr
  have hwr : w.heap.size ≤ r := by omega
  have hne0 : r ≠ w.heap.size := by omega
  clear hr hb hrr
  have z0 := (unhide HZ).cell 0 rfl
  have z0f := (unhide HZ).frozen 0 rfl
  have z1 := (unhide HZ).cell 1 rfl
  have z1f := (unhide HZ).frozen 1 rfl
  have z2 := (unhide HZ).cell 2 rfl
  have z2f := (unhide HZ).frozen 2 rfl
  have z3 := (unhide HZ).cell 3 rfl
  have z3f := (unhide HZ).frozen 3 rfl
  go_wp2_with fail
  refine (c128 r (0) 6 _ (by omega) (by omega) (unhide HRd)).mono ?_
  rintro e w2 ⟨a, t, u, p, rfl, hf, hr, hg⟩
  have HF := hide hf
  clear hf
  (try clear z0 z0f z1 z1f z2 z2f z3 z3f)
  replace HB := hide (below_gr (unhide HB) hg (by omega))
  replace HZ := hide ((unhide HZ).kg hg (by omega))
  replace HRd := hide hr
  clear hr hg
  have z0 := (unhide HZ).cell 0 rfl
  have z0f := (unhide HZ).frozen 0 rfl
  have z1 := (unhide HZ).cell 1 rfl
  have z1f := (unhide HZ).frozen 1 rfl
  have z2 := (unhide HZ).cell 2 rfl
  have z2f := (unhide HZ).frozen 2 rfl
  have z3 := (unhide HZ).cell 3 rfl
  have z3f := (unhide HZ).frozen 3 rfl
  go_wp2_with fail
  exact bodyPost_ret (v := entV a t u p) (by simp [results, Try.results27, go_sem, z0, z1, z2, z3]) rfl ⟨_, _, _, _, rfl, unhide HF, below_sc (below_sc (below_sc (below_sc (unhide HB) (by dsimp only; omega)) (by dsimp only; omega)) (by dsimp only; omega)) (by dsimp only; omega)⟩

set_option maxHeartbeats 8000000 in
theorem law3 (bs cs : List Int) (ao bo : Option Addr) (n cap m cap' : Nat) (w : World) (hn : bs.length = n) (hc : n ≤ cap) (hm : cap ≤ maxLen) (hB : Bytes w ao bs) (hn2 : cs.length = m) (hc2 : m ≤ cap') (hm2 : cap' ≤ maxLen) (hB2 : Bytes w bo cs) :
    Calls Try.prog 3 #[.slice ao n cap, .slice bo m cap'] w (Holds w) := by
  have HM := hide hm
  unfold maxLen at hm
  have HBY := hide hB
  have HN := hide hn
  have HB := hide (Below.refl w.heap.size w)
  have HM2 := hide hm2
  unfold maxLen at hm2
  have HBZ := hide hB2
  have HN2 := hide hn2
  clear hB hn hB2 hn2
  by_cases hbig : (1048576 : Int) < (n : Int)
  case pos =>
    go_enter Try.func3, Try.ntmps3
    go_wp2_with fail
    go_ret
    exact ⟨rfl, unhide HB⟩
  by_cases hbig2 : (1048576 : Int) < (m : Int)
  case pos =>
    go_enter Try.func3, Try.ntmps3
    go_wp2_with fail
    go_ret
    exact ⟨rfl, unhide HB⟩
  go_enter Try.func3, Try.ntmps3
  go_wp2_with fail
  refine (c27 bs ao n cap _ HN.out hc (unhide HM) (unhide HBY)).mono ?_
  rintro e w1 ⟨ek, et, eu, ep, rfl, hf, hb⟩
  have HF := hide hf
  clear hf
  replace HB := hide (below_tr (unhide HB) hb)
  replace HBZ := hide ((unhide HBZ).bel hb)
  clear HBY
  clear hb
  replace HB := hide (below_al (o := .cells #[.int .i64 ek, .int .i64 et, .int .i64 eu, .int .i64 ep] 24) (unhide HB))
  replace HBZ := hide ((unhide HBZ).bel (below_a (.cells #[.int .i64 ek, .int .i64 et, .int .i64 eu, .int .i64 ep] 24)))
  have HE := hide (box_new w1 [.int .i64 ek, .int .i64 et, .int .i64 eu, .int .i64 ep] 24 (by simp [Value.oneCell']))
  have x0 := (unhide HE).cell 0 rfl
  have x1 := (unhide HE).cell 1 rfl
  have x2 := (unhide HE).cell 2 rfl
  have x3 := (unhide HE).cell 3 rfl
  go_wp2_with fail
  refine (c28 cs bo m cap' _ HN2.out hc2 (unhide HM2) (unhide HBZ)).mono ?_
  rintro e w2 ⟨v, es, rfl, hes, ho, hb⟩
  obtain ⟨al, capl, rfl, hcl, hR1, -⟩ := ho.row
  (try clear x0 x1 x2 x3)
  replace HB := hide (below_tr (unhide HB) hb)
  replace HE := hide ((unhide HE).bel hb)
  clear HBZ
  have HRL := hide (hR1)
  clear hb ho hR1
  have x0 := (unhide HE).cell 0 rfl
  have x1 := (unhide HE).cell 1 rfl
  have x2 := (unhide HE).cell 2 rfl
  have x3 := (unhide HE).cell 3 rfl
  go_wp2_with fail
  have hln := entLeaves_ln es
  have HLN := hide hln
  clear hln
  refine (c29 es al es.length capl _ rfl (by omega) (unhide HRL)).mono ?_
  rintro e w3 ⟨v, rfl, ho, hb⟩
  obtain ⟨av, capv, rfl, hcv, hrr, -⟩ := ho.row
  rw [unhide HLN] at hcv ⊢
  (try clear x0 x1 x2 x3)
  replace HB := hide (below_tr (unhide HB) hb)
  replace HE := hide ((unhide HE).bel hb)
  replace HRL := hide ((unhide HRL).bel hb)
  have HLV := hide (hrr)
  clear hb ho hrr
  have x0 := (unhide HE).cell 0 rfl
  have x1 := (unhide HE).cell 1 rfl
  have x2 := (unhide HE).cell 2 rfl
  have x3 := (unhide HE).cell 3 rfl
  generalize hlf : Tm.leaf [ek, et, eu, ep] = lf at *
  have HLF := hide hlf
  clear hlf
  go_wp2_with fail
  (try clear x0 x1 x2 x3)
  refine wp_region_held_drew (S := fun w' => Below w3.heap.size w3 w') (by kernel_rfl) (below_drew w3) (fun hHeld => ?_)
  refine wpAnyH_take (i := 0) (oi := { dst := some 24, op := _, type := _, pos := _, after := _, guard := _ }) (v := ?_) rfl (by kernel_rfl) (by kernel_rfl) (by kernel_rfl) (fun _ _ _ h => h) (Or.inl ⟨by rfl, ?_⟩) (by assumption) ?_
  rotate_left
  · intro w hSw
    have hT := (unhide HE).below hSw; have x0 := hT.cell 0 rfl; have x1 := hT.cell 1 rfl; have x2 := hT.cell 2 rfl; have x3 := hT.cell 3 rfl; clear hT
    first | (go_simp; done) | (go_simp; with_reducible rfl)
  try simp only [Act.put, List.setIfInBounds_toArray, List.set_cons_zero, List.set_cons_succ]
  refine wpAnyH_take (i := 2) (oi := { dst := some 26, op := _, type := _, pos := _, after := _, guard := _ }) (v := ?_) rfl (by kernel_rfl) (by kernel_rfl) (by kernel_rfl) (fun _ _ _ h => h) (Or.inl ⟨by rfl, ?_⟩) (by assumption) ?_
  rotate_left
  · intro w hSw
    have hT := (unhide HE).below hSw; have x0 := hT.cell 0 rfl; have x1 := hT.cell 1 rfl; have x2 := hT.cell 2 rfl; have x3 := hT.cell 3 rfl; clear hT
    first | (go_simp; done) | (go_simp; with_reducible rfl)
  try simp only [Act.put, List.setIfInBounds_toArray, List.set_cons_zero, List.set_cons_succ]
  have HD := below_drew w3
  generalize w3.drew = V0 at *
  refine wpAnyH_ready (rs := [1]) (by kernel_rfl) (by simp) ?_
  refine AllReadyH.cons (o := { dst := some 25, op := _, type := _, pos := _, after := _, guard := _ }) rfl (fun K hK => ?_) AllReadyH.nil
  go_simp
  go_at_call 30
  refine (c30 ek et eu ep _ (unhide HF)).mono ?_
  rintro e V1 ⟨rfl, hb⟩
  replace HD := below_then HD hb
  clear hb
  rw [unhide HLF]
  try go_wp2_with fail
  refine hK.out _ _ HD (fun hHeld => ?_)
  clear hK K hHeld
  try simp only [Act.put, List.setIfInBounds_toArray, List.set_cons_zero, List.set_cons_succ]
  refine wpAnyH_ready (rs := [3]) (by kernel_rfl) (by simp) ?_
  refine AllReadyH.cons (o := { dst := some 27, op := _, type := _, pos := _, after := _, guard := _ }) rfl (fun K hK => ?_) AllReadyH.nil
  go_simp
  go_at_call 31
  refine (c31 ek et eu ep _ (unhide HF)).mono ?_
  rintro e V2 ⟨rfl, hb⟩
  replace HD := below_then HD hb
  clear hb
  rw [unhide HLF]
  try go_wp2_with fail
  refine hK.out _ _ HD (fun hHeld => ?_)
  clear hK K hHeld
  try simp only [Act.put, List.setIfInBounds_toArray, List.set_cons_zero, List.set_cons_succ]
  refine wpAnyH_take (i := 4) (oi := { dst := some 28, op := _, type := _, pos := _, after := _, guard := _ }) (v := ?_) rfl (by kernel_rfl) (by kernel_rfl) (by kernel_rfl) (fun _ _ _ h => h) (Or.inl ⟨by rfl, ?_⟩) (by assumption) ?_
  rotate_left
  · intro w hSw
    first | (go_simp; done) | (go_simp; with_reducible rfl)
  try simp only [Act.put, List.setIfInBounds_toArray, List.set_cons_zero, List.set_cons_succ]
  refine wpAnyH_take (i := 5) (oi := { dst := some 29, op := _, type := _, pos := _, after := _, guard := _ }) (v := ?_) rfl (by kernel_rfl) (by kernel_rfl) (by kernel_rfl) (fun _ _ _ h => h) (Or.inl ⟨by rfl, ?_⟩) (by assumption) ?_
  rotate_left
  · intro w hSw
    first | (go_simp; done) | (go_simp; with_reducible rfl)
  try simp only [Act.put, List.setIfInBounds_toArray, List.set_cons_zero, List.set_cons_succ]
  refine wpAnyH_take (i := 6) (oi := { dst := some 30, op := _, type := _, pos := _, after := _, guard := _ }) (v := ?_) rfl (by kernel_rfl) (by kernel_rfl) (by kernel_rfl) (fun _ _ _ h => h) (Or.inl ⟨by rfl, ?_⟩) (by assumption) ?_
  rotate_left
  · intro w hSw
    first | (go_simp; done) | (go_simp; with_reducible rfl)
  try simp only [Act.put, List.setIfInBounds_toArray, List.set_cons_zero, List.set_cons_succ]
  refine wpAnyH_take (i := 7) (oi := { dst := some 31, op := _, type := _, pos := _, after := _, guard := _ }) (v := ?_) rfl (by kernel_rfl) (by kernel_rfl) (by kernel_rfl) (fun _ _ _ h => h) (Or.inl ⟨by rfl, ?_⟩) (by assumption) ?_
  rotate_left
  · intro w hSw
    first | (go_simp; done) | (go_simp; with_reducible rfl)
  try simp only [Act.put, List.setIfInBounds_toArray, List.set_cons_zero, List.set_cons_succ]
  refine wpAnyH_ready (rs := [8]) (by kernel_rfl) (by simp) ?_
  refine AllReadyH.cons (o := { dst := some 32, op := _, type := _, pos := _, after := _, guard := _ }) rfl (fun K hK => ?_) AllReadyH.nil
  go_simp
  go_at_call 33
  refine (c33 es al es.length capl _ rfl (by omega) ((unhide HRL).bel HD)).mono ?_
  rintro e V3 ⟨v, rfl, ho, hb⟩
  replace HD := below_then HD hb
  clear hb
  obtain ⟨asv, caps, rfl, hcs, hrs, -⟩ := ho.row
  clear ho
  rw [unhide HLN] at hcs ⊢
  try go_wp2_with fail
  refine hK.out _ _ HD (fun hHeld => ?_)
  clear hK K hHeld
  try simp only [Act.put, List.setIfInBounds_toArray, List.set_cons_zero, List.set_cons_succ]
  refine wpAnyH_ready (rs := [9]) (by kernel_rfl) (by simp) ?_
  refine AllReadyH.cons (o := { dst := some 33, op := _, type := _, pos := _, after := _, guard := _ }) rfl (fun K hK => ?_) AllReadyH.nil
  go_simp
  go_at_call 32
  refine (dnB (c32 (Tm.entLeaves es) (Tm.entLeaves es) av asv es.length capv es.length caps _ (unhide HLN) (unhide HLN) (by omega) (by omega) ((unhide HLV).bel HD) hrs)).mono ?_
  rintro e V4 ⟨rfl, hb⟩
  replace hrs := hrs.bel hb
  replace HD := below_then HD hb
  clear hb
  rw [decide_eq_true (rfl : Tm.entLeaves es = Tm.entLeaves es)]
  try go_wp2_with fail
  refine hK.out _ _ HD (fun hHeld => ?_)
  clear hK K hHeld
  try simp only [Act.put, List.setIfInBounds_toArray, List.set_cons_zero, List.set_cons_succ]
  refine wpAnyH_take (i := 10) (oi := { dst := some 34, op := _, type := _, pos := _, after := _, guard := _ }) (v := ?_) rfl (by kernel_rfl) (by kernel_rfl) (by kernel_rfl) (fun _ _ _ h => h) (Or.inl ⟨by rfl, ?_⟩) (by assumption) ?_
  rotate_left
  · intro w hSw
    first | (go_simp; done) | (go_simp; with_reducible rfl)
  try simp only [Act.put, List.setIfInBounds_toArray, List.set_cons_zero, List.set_cons_succ]
  refine wpAnyH_take (i := 11) (oi := { dst := some 35, op := _, type := _, pos := _, after := _, guard := _ }) (v := ?_) rfl (by kernel_rfl) (by kernel_rfl) (by kernel_rfl) (fun _ _ _ h => h) (Or.inl ⟨by rfl, ?_⟩) (by assumption) ?_
  rotate_left
  · intro w hSw
    first | (go_simp; done) | (go_simp; with_reducible rfl)
  try simp only [Act.put, List.setIfInBounds_toArray, List.set_cons_zero, List.set_cons_succ]
  refine wpAnyH_take (i := 12) (oi := { dst := some 36, op := _, type := _, pos := _, after := _, guard := _ }) (v := ?_) rfl (by kernel_rfl) (by kernel_rfl) (by kernel_rfl) (fun _ _ _ h => h) (Or.inl ⟨by rfl, ?_⟩) (by assumption) ?_
  rotate_left
  · intro w hSw
    first | (go_simp; done) | (go_simp; with_reducible rfl)
  try simp only [Act.put, List.setIfInBounds_toArray, List.set_cons_zero, List.set_cons_succ]
  refine wpAnyH_take (i := 13) (oi := { dst := some 37, op := _, type := _, pos := _, after := _, guard := _ }) (v := ?_) rfl (by kernel_rfl) (by kernel_rfl) (by kernel_rfl) (fun _ _ _ h => h) (Or.inl ⟨by rfl, ?_⟩) (by assumption) ?_
  rotate_left
  · intro w hSw
    first | (go_simp; done) | (go_simp; with_reducible rfl)
  try simp only [Act.put, List.setIfInBounds_toArray, List.set_cons_zero, List.set_cons_succ]
  refine wpAnyH_take (i := 14) (oi := { dst := some 38, op := _, type := _, pos := _, after := _, guard := _ }) (v := ?_) rfl (by kernel_rfl) (by kernel_rfl) (by kernel_rfl) (fun _ _ _ h => h) (Or.inl ⟨by rfl, ?_⟩) (by assumption) ?_
  rotate_left
  · intro w hSw
    first | (go_simp; done) | (go_simp; with_reducible rfl)
  try simp only [Act.put, List.setIfInBounds_toArray, List.set_cons_zero, List.set_cons_succ]
  refine wpAnyH_take (i := 15) (oi := { dst := some 39, op := _, type := _, pos := _, after := _, guard := _ }) (v := ?_) rfl (by kernel_rfl) (by kernel_rfl) (by kernel_rfl) (fun _ _ _ h => h) (Or.inl ⟨by rfl, ?_⟩) (by assumption) ?_
  rotate_left
  · intro w hSw
    first | (go_simp; done) | (go_simp; with_reducible rfl)
  try simp only [Act.put, List.setIfInBounds_toArray, List.set_cons_zero, List.set_cons_succ]
  refine wpAnyH_take (i := 16) (oi := { dst := some 40, op := _, type := _, pos := _, after := _, guard := _ }) (v := ?_) rfl (by kernel_rfl) (by kernel_rfl) (by kernel_rfl) (fun _ _ _ h => h) (Or.inl ⟨by rfl, ?_⟩) (by assumption) ?_
  rotate_left
  · intro w hSw
    first | (go_simp; done) | (go_simp; with_reducible rfl)
  try simp only [Act.put, List.setIfInBounds_toArray, List.set_cons_zero, List.set_cons_succ]
  refine wpAnyH_take (i := 17) (oi := { dst := some 41, op := _, type := _, pos := _, after := _, guard := _ }) (v := ?_) rfl (by kernel_rfl) (by kernel_rfl) (by kernel_rfl) (fun _ _ _ h => h) (Or.inl ⟨by rfl, ?_⟩) (by assumption) ?_
  rotate_left
  · intro w hSw
    first | (go_simp; done) | (go_simp; with_reducible rfl)
  try simp only [Act.put, List.setIfInBounds_toArray, List.set_cons_zero, List.set_cons_succ]
  refine wpAnyH_take (i := 18) (oi := { dst := some 42, op := _, type := _, pos := _, after := _, guard := _ }) (v := ?_) rfl (by kernel_rfl) (by kernel_rfl) (by kernel_rfl) (fun _ _ _ h => h) (Or.inl ⟨by rfl, ?_⟩) (by assumption) ?_
  rotate_left
  · intro w hSw
    first | (go_simp; done) | (go_simp; with_reducible rfl)
  try simp only [Act.put, List.setIfInBounds_toArray, List.set_cons_zero, List.set_cons_succ]
  refine wpAnyH_done (by kernel_rfl) ?_ _
  replace HB := hide (below_tr (unhide HB) HD)
  replace HE := hide ((unhide HE).bel HD)
  replace HRL := hide ((unhide HRL).bel HD)
  replace HLV := hide ((unhide HLV).bel HD)
  have Hhrs := hide hrs
  clear HD hrs
  have x0 := (unhide HE).cell 0 rfl
  have x1 := (unhide HE).cell 1 rfl
  have x2 := (unhide HE).cell 2 rfl
  have x3 := (unhide HE).cell 3 rfl
  go_wp2_with fail
  (try clear x0 x1 x2 x3)
  clear Hhrs
  have x0 := (unhide HE).cell 0 rfl
  have x1 := (unhide HE).cell 1 rfl
  have x2 := (unhide HE).cell 2 rfl
  have x3 := (unhide HE).cell 3 rfl
  go_loopw [8] (fun i wr => ∃ k : Nat, k ≤ es.length ∧ i = .int .i64 k ∧ BelowOf V4 wr) (fun i _ => es.length - (intOf i).toNat)
  case atStart => exact ⟨0, Nat.zero_le _, rfl, Below.refl _ _⟩
  case round =>
    obtain ⟨k, hk, rfl, hbw⟩ := hrel
    (try clear x0 x1 x2 x3)
    have hb : Below V4.heap.size V4 wr := hbw
    have HBW := hide hbw
    clear hbw
    replace HB := hide (below_tr (unhide HB) hb)
    replace HE := hide ((unhide HE).bel hb)
    replace HRL := hide ((unhide HRL).bel hb)
    replace HLV := hide ((unhide HLV).bel hb)
    clear hb
    by_cases hlt : (k : Int) < (es.length : Int)
    case pos =>
      have hltN : k < es.length := by omega
      obtain ⟨b, off, rfl, hcc⟩ := (unhide HRL).2 (by intro e; subst e; simp at hltN)
      obtain ⟨y0, y1, y2, y3, hx⟩ := e_at4 hltN
      obtain ⟨g0, g1, g2, g3⟩ := e_cells (Below.refl _ _) hcc hx
      obtain ⟨b', off', rfl, hcv⟩ := (unhide HLV).2 (by intro e; have := unhide HLN; rw [e] at this; simp at this; omega)
      have hcx := hcv k (by rw [unhide HLN]; exact hltN)
      rw [entLeaves_at hx] at hcx
      have HC0 := hide g0
      have HC1 := hide g1
      have HC2 := hide g2
      have HC3 := hide g3
      have HCX := hide hcx
      have HFE : Hid (FitsE y0 y1 y2 y3) := (unhide HRL).1 _ (List.mem_of_getElem? hx)
      generalize hlk : Tm.leaf [y0, y1, y2, y3] = lk at *
      have HLK := hide hlk
      clear g0 g1 g2 g3 hcx hcc hcv hx hlk
      go_wp2_with fail
      (try clear x0 x1 x2 x3)
      refine wp_region_held_drew (S := fun w' => Below wr.heap.size wr w') (by kernel_rfl) (below_drew wr) (fun hHeld => ?_)
      refine wpAnyH_take (i := 0) (oi := { dst := some 49, op := _, type := _, pos := _, after := _, guard := _ }) (v := ?_) rfl (by kernel_rfl) (by kernel_rfl) (by kernel_rfl) (fun _ _ _ h => h) (Or.inl ⟨by rfl, ?_⟩) (by assumption) ?_
      rotate_left
      · intro w hSw
        first | (go_simp; done) | (go_simp; with_reducible rfl)
      try simp only [Act.put, List.setIfInBounds_toArray, List.set_cons_zero, List.set_cons_succ]
      refine wpAnyH_take (i := 1) (oi := { dst := some 50, op := _, type := _, pos := _, after := _, guard := _ }) (v := ?_) rfl (by kernel_rfl) (by kernel_rfl) (by kernel_rfl) (fun _ _ _ h => h) (Or.inl ⟨by rfl, ?_⟩) (by assumption) ?_
      rotate_left
      · intro w hSw
        first | (go_simp; done) | (go_simp; with_reducible rfl)
      try simp only [Act.put, List.setIfInBounds_toArray, List.set_cons_zero, List.set_cons_succ]
      refine wpAnyH_take (i := 2) (oi := { dst := some 51, op := _, type := _, pos := _, after := _, guard := _ }) (v := ?_) rfl (by kernel_rfl) (by kernel_rfl) (by kernel_rfl) (fun _ _ _ h => h) (Or.inl ⟨by rfl, ?_⟩) (by assumption) ?_
      rotate_left
      · intro w hSw
        have hT := (unhide HE).below hSw; have x0 := hT.cell 0 rfl; have x1 := hT.cell 1 rfl; have x2 := hT.cell 2 rfl; have x3 := hT.cell 3 rfl; clear hT; have g0 := cell_bl hSw (unhide HC0); have g1 := cell_bl hSw (unhide HC1); have g2 := cell_bl hSw (unhide HC2); have g3 := cell_bl hSw (unhide HC3); have hcx := cell_bl hSw (unhide HCX)
        first | (go_simp; done) | (go_simp; with_reducible rfl)
      try simp only [Act.put, List.setIfInBounds_toArray, List.set_cons_zero, List.set_cons_succ]
      refine wpAnyH_take (i := 3) (oi := { dst := some 52, op := _, type := _, pos := _, after := _, guard := _ }) (v := ?_) rfl (by kernel_rfl) (by kernel_rfl) (by kernel_rfl) (fun _ _ _ h => h) (Or.inl ⟨by rfl, ?_⟩) (by assumption) ?_
      rotate_left
      · intro w hSw
        have hT := (unhide HE).below hSw; have x0 := hT.cell 0 rfl; have x1 := hT.cell 1 rfl; have x2 := hT.cell 2 rfl; have x3 := hT.cell 3 rfl; clear hT; have g0 := cell_bl hSw (unhide HC0); have g1 := cell_bl hSw (unhide HC1); have g2 := cell_bl hSw (unhide HC2); have g3 := cell_bl hSw (unhide HC3); have hcx := cell_bl hSw (unhide HCX)
        first | (go_simp; done) | (go_simp; with_reducible rfl)
      try simp only [Act.put, List.setIfInBounds_toArray, List.set_cons_zero, List.set_cons_succ]
      refine wpAnyH_take (i := 4) (oi := { dst := some 53, op := _, type := _, pos := _, after := _, guard := _ }) (v := ?_) rfl (by kernel_rfl) (by kernel_rfl) (by kernel_rfl) (fun _ _ _ h => h) (Or.inl ⟨by rfl, ?_⟩) (by assumption) ?_
      rotate_left
      · intro w hSw
        first | (go_simp; done) | (go_simp; with_reducible rfl)
      try simp only [Act.put, List.setIfInBounds_toArray, List.set_cons_zero, List.set_cons_succ]
      refine wpAnyH_take (i := 5) (oi := { dst := some 54, op := _, type := _, pos := _, after := _, guard := _ }) (v := ?_) rfl (by kernel_rfl) (by kernel_rfl) (by kernel_rfl) (fun _ _ _ h => h) (Or.inl ⟨by rfl, ?_⟩) (by assumption) ?_
      rotate_left
      · intro w hSw
        first | (go_simp; done) | (go_simp; with_reducible rfl)
      try simp only [Act.put, List.setIfInBounds_toArray, List.set_cons_zero, List.set_cons_succ]
      refine wpAnyH_take (i := 6) (oi := { dst := some 55, op := _, type := _, pos := _, after := _, guard := _ }) (v := ?_) rfl (by kernel_rfl) (by kernel_rfl) (by kernel_rfl) (fun _ _ _ h => h) (Or.inl ⟨by rfl, ?_⟩) (by assumption) ?_
      rotate_left
      · intro w hSw
        have hT := (unhide HE).below hSw; have x0 := hT.cell 0 rfl; have x1 := hT.cell 1 rfl; have x2 := hT.cell 2 rfl; have x3 := hT.cell 3 rfl; clear hT; have g0 := cell_bl hSw (unhide HC0); have g1 := cell_bl hSw (unhide HC1); have g2 := cell_bl hSw (unhide HC2); have g3 := cell_bl hSw (unhide HC3); have hcx := cell_bl hSw (unhide HCX)
        first | (go_simp; done) | (go_simp; with_reducible rfl)
      try simp only [Act.put, List.setIfInBounds_toArray, List.set_cons_zero, List.set_cons_succ]
      refine wpAnyH_take (i := 7) (oi := { dst := some 56, op := _, type := _, pos := _, after := _, guard := _ }) (v := ?_) rfl (by kernel_rfl) (by kernel_rfl) (by kernel_rfl) (fun _ _ _ h => h) (Or.inl ⟨by rfl, ?_⟩) (by assumption) ?_
      rotate_left
      · intro w hSw
        have hT := (unhide HE).below hSw; have x0 := hT.cell 0 rfl; have x1 := hT.cell 1 rfl; have x2 := hT.cell 2 rfl; have x3 := hT.cell 3 rfl; clear hT; have g0 := cell_bl hSw (unhide HC0); have g1 := cell_bl hSw (unhide HC1); have g2 := cell_bl hSw (unhide HC2); have g3 := cell_bl hSw (unhide HC3); have hcx := cell_bl hSw (unhide HCX)
        first | (go_simp; done) | (go_simp; with_reducible rfl)
      try simp only [Act.put, List.setIfInBounds_toArray, List.set_cons_zero, List.set_cons_succ]
      have HD := below_drew wr
      generalize wr.drew = V0 at *
      refine wpAnyH_ready (rs := [8]) (by kernel_rfl) (by simp) ?_
      refine AllReadyH.cons (o := { dst := some 57, op := _, type := _, pos := _, after := _, guard := _ }) rfl (fun K hK => ?_) AllReadyH.nil
      go_simp
      go_at_call 30
      refine (c30 y0 y1 y2 y3 _ (unhide HFE)).mono ?_
      rintro e V1 ⟨rfl, hb⟩
      replace HD := below_then HD hb
      clear hb
      rw [unhide HLK]
      try go_wp2_with fail
      refine hK.out _ _ HD (fun hHeld => ?_)
      clear hK K hHeld
      try simp only [Act.put, List.setIfInBounds_toArray, List.set_cons_zero, List.set_cons_succ]
      refine wpAnyH_take (i := 9) (oi := { dst := some 58, op := _, type := _, pos := _, after := _, guard := _ }) (v := ?_) rfl (by kernel_rfl) (by kernel_rfl) (by kernel_rfl) (fun _ _ _ h => h) (Or.inl ⟨by rfl, ?_⟩) (by assumption) ?_
      rotate_left
      · intro w hSw
        first | (go_simp; done) | (go_simp; with_reducible rfl)
      try simp only [Act.put, List.setIfInBounds_toArray, List.set_cons_zero, List.set_cons_succ]
      refine wpAnyH_done (by kernel_rfl) ?_ _
      replace HB := hide (below_tr (unhide HB) HD)
      replace HE := hide ((unhide HE).bel HD)
      replace HRL := hide ((unhide HRL).bel HD)
      replace HLV := hide ((unhide HLV).bel HD)
      replace HBW := hide ((unhide HBW).bel HD)
      clear HD 
      have x0 := (unhide HE).cell 0 rfl
      have x1 := (unhide HE).cell 1 rfl
      have x2 := (unhide HE).cell 2 rfl
      have x3 := (unhide HE).cell 3 rfl
      go_wp2_with fail
      go_roundw
      case rel => exact ⟨k + 1, by omega, by go_num, unhide HBW⟩
      case measure => simp [intOf]; omega
    clear HRL HLV HBW hk HLN
    have x0 := (unhide HE).cell 0 rfl
    have x1 := (unhide HE).cell 1 rfl
    have x2 := (unhide HE).cell 2 rfl
    have x3 := (unhide HE).cell 3 rfl
    go_wp2_with fail
    (try clear x0 x1 x2 x3)
    (try clear x0 x1 x2 x3)
    replace HB := hide (below_al (o := .cells #[.int .i64 ek, .int .i64 et, .int .i64 eu, .int .i64 77] 24) (unhide HB))
    replace HE := hide ((unhide HE).bel (below_a (.cells #[.int .i64 ek, .int .i64 et, .int .i64 eu, .int .i64 77] 24)))
    have HX := hide (box_new wr [.int .i64 ek, .int .i64 et, .int .i64 eu, .int .i64 77] 24 (by simp [Value.oneCell']))
    have x0 := (unhide HE).cell 0 rfl
    have x1 := (unhide HE).cell 1 rfl
    have x2 := (unhide HE).cell 2 rfl
    have x3 := (unhide HE).cell 3 rfl
    have v0 := (unhide HX).cell 0 rfl
    have v1 := (unhide HX).cell 1 rfl
    have v2 := (unhide HX).cell 2 rfl
    have v3 := (unhide HX).cell 3 rfl
    have HOK : Hid (Tm.okB lf = true) := by unfold Hid; rw [← unhide HLF]; exact Tm.leaf_ok _
    have HF7 : Hid (FitsE ek et eu 77) := by have h := unhide HF; unfold FitsE at h; unfold Hid FitsE; omega
    rcases hk2 : Tm.entOk (ek, et, eu, ep) with _ | _
    case false =>
      generalize wr.alloc (.cells #[.int .i64 ek, .int .i64 et, .int .i64 eu, .int .i64 77] 24) = WW at *
      (try clear x0 x1 x2 x3 v0 v1 v2 v3)
      refine wp_region_held_drew (S := fun w' => Below WW.heap.size WW w') (by kernel_rfl) (below_drew WW) (fun hHeld => ?_)
      refine wpAnyH_take (i := 0) (oi := { dst := some 61, op := _, type := _, pos := _, after := _, guard := _ }) (v := ?_) rfl (by kernel_rfl) (by kernel_rfl) (by kernel_rfl) (fun _ _ _ h => h) (Or.inl ⟨by rfl, ?_⟩) (by assumption) ?_
      rotate_left
      · intro w hSw
        have hT := (unhide HE).below hSw; have x0 := hT.cell 0 rfl; have x1 := hT.cell 1 rfl; have x2 := hT.cell 2 rfl; have x3 := hT.cell 3 rfl; clear hT; have hT := (unhide HX).below hSw; have v0 := hT.cell 0 rfl; have v1 := hT.cell 1 rfl; have v2 := hT.cell 2 rfl; have v3 := hT.cell 3 rfl; clear hT
        first | (go_simp; done) | (go_simp; with_reducible rfl)
      try simp only [Act.put, List.setIfInBounds_toArray, List.set_cons_zero, List.set_cons_succ]
      have HD := below_drew WW
      generalize WW.drew = V0 at *
      refine wpAnyH_ready (rs := [1]) (by kernel_rfl) (by simp) ?_
      refine AllReadyH.cons (o := { dst := some 62, op := _, type := _, pos := _, after := _, guard := _ }) rfl (fun K hK => ?_) AllReadyH.nil
      go_simp
      go_at_call 30
      refine (c30 ek et eu ep _ (unhide HF)).mono ?_
      rintro e V1 ⟨rfl, hb⟩
      replace HD := below_then HD hb
      clear hb
      rw [unhide HLF]
      try go_wp2_with fail
      refine hK.out _ _ HD (fun hHeld => ?_)
      clear hK K hHeld
      try simp only [Act.put, List.setIfInBounds_toArray, List.set_cons_zero, List.set_cons_succ]
      refine wpAnyH_ready (rs := [2]) (by kernel_rfl) (by simp) ?_
      refine AllReadyH.cons (o := { dst := some 63, op := _, type := _, pos := _, after := _, guard := _ }) rfl (fun K hK => ?_) AllReadyH.nil
      go_simp
      go_at_call 34
      refine (c34 lf _).mono ?_
      rintro e V2 ⟨rfl, hww⟩
      have hww := hww.symm
      subst hww
      rw [unhide HOK]
      try go_wp2_with fail
      refine hK.out _ _ HD (fun hHeld => ?_)
      clear hK K hHeld
      try simp only [Act.put, List.setIfInBounds_toArray, List.set_cons_zero, List.set_cons_succ]
      refine wpAnyH_take (i := 3) (oi := { dst := some 64, op := _, type := _, pos := _, after := _, guard := _ }) (v := ?_) rfl (by kernel_rfl) (by kernel_rfl) (by kernel_rfl) (fun _ _ _ h => h) (Or.inl ⟨by rfl, ?_⟩) (by assumption) ?_
      rotate_left
      · intro w hSw
        first | (go_simp; done) | (go_simp; with_reducible rfl)
      try simp only [Act.put, List.setIfInBounds_toArray, List.set_cons_zero, List.set_cons_succ]
      refine wpAnyH_take (i := 4) (oi := { dst := some 65, op := _, type := _, pos := _, after := _, guard := _ }) (v := ?_) rfl (by kernel_rfl) (by kernel_rfl) (by kernel_rfl) (fun _ _ _ h => h) (Or.inl ⟨by rfl, ?_⟩) (by assumption) ?_
      rotate_left
      · intro w hSw
        have hT := (unhide HE).below hSw; have x0 := hT.cell 0 rfl; have x1 := hT.cell 1 rfl; have x2 := hT.cell 2 rfl; have x3 := hT.cell 3 rfl; clear hT; have hT := (unhide HX).below hSw; have v0 := hT.cell 0 rfl; have v1 := hT.cell 1 rfl; have v2 := hT.cell 2 rfl; have v3 := hT.cell 3 rfl; clear hT
        first | (go_simp; done) | (go_simp; with_reducible rfl)
      try simp only [Act.put, List.setIfInBounds_toArray, List.set_cons_zero, List.set_cons_succ]
      refine wpAnyH_ready (rs := [5]) (by kernel_rfl) (by simp) ?_
      refine AllReadyH.cons (o := { dst := some 66, op := _, type := _, pos := _, after := _, guard := _ }) rfl (fun K hK => ?_) AllReadyH.nil
      go_simp
      go_at_call 35
      refine (c35 ek et eu ep _).mono ?_
      rintro e V3 ⟨rfl, hb⟩
      replace HD := below_then HD hb
      clear hb
      rw [hk2]
      try go_wp2_with fail
      refine hK.out _ _ HD (fun hHeld => ?_)
      clear hK K hHeld
      try simp only [Act.put, List.setIfInBounds_toArray, List.set_cons_zero, List.set_cons_succ]
      refine wpAnyH_take (i := 6) (oi := { dst := some 67, op := _, type := _, pos := _, after := _, guard := _ }) (v := ?_) rfl (by kernel_rfl) (by kernel_rfl) (by kernel_rfl) (fun _ _ _ h => h) (Or.inl ⟨by rfl, ?_⟩) (by assumption) ?_
      rotate_left
      · intro w hSw
        first | (go_simp; done) | (go_simp; with_reducible rfl)
      try simp only [Act.put, List.setIfInBounds_toArray, List.set_cons_zero, List.set_cons_succ]
      refine wpAnyH_take (i := 7) (oi := { dst := some 68, op := _, type := _, pos := _, after := _, guard := _ }) (v := ?_) rfl (by kernel_rfl) (by kernel_rfl) (by kernel_rfl) (fun _ _ _ h => h) (Or.inl ⟨by rfl, ?_⟩) (by assumption) ?_
      rotate_left
      · intro w hSw
        first | (go_simp; done) | (go_simp; with_reducible rfl)
      try simp only [Act.put, List.setIfInBounds_toArray, List.set_cons_zero, List.set_cons_succ]
      refine wpAnyH_take (i := 8) (oi := { dst := some 69, op := _, type := _, pos := _, after := _, guard := _ }) (v := undef) rfl (by kernel_rfl) (by kernel_rfl) (by kernel_rfl) (fun _ _ _ h => h) (Or.inr ⟨by rfl, rfl⟩) (by assumption) ?_
      try simp only [Act.put, List.setIfInBounds_toArray, List.set_cons_zero, List.set_cons_succ]
      refine wpAnyH_take (i := 10) (oi := { dst := some 71, op := _, type := _, pos := _, after := _, guard := _ }) (v := undef) rfl (by kernel_rfl) (by kernel_rfl) (by kernel_rfl) (fun _ _ _ h => h) (Or.inr ⟨by rfl, rfl⟩) (by assumption) ?_
      try simp only [Act.put, List.setIfInBounds_toArray, List.set_cons_zero, List.set_cons_succ]
      refine wpAnyH_take (i := 9) (oi := { dst := some 70, op := _, type := _, pos := _, after := _, guard := _ }) (v := undef) rfl (by kernel_rfl) (by kernel_rfl) (by kernel_rfl) (fun _ _ _ h => h) (Or.inr ⟨by rfl, rfl⟩) (by assumption) ?_
      try simp only [Act.put, List.setIfInBounds_toArray, List.set_cons_zero, List.set_cons_succ]
      refine wpAnyH_take (i := 11) (oi := { dst := some 72, op := _, type := _, pos := _, after := _, guard := _ }) (v := undef) rfl (by kernel_rfl) (by kernel_rfl) (by kernel_rfl) (fun _ _ _ h => h) (Or.inr ⟨by rfl, rfl⟩) (by assumption) ?_
      try simp only [Act.put, List.setIfInBounds_toArray, List.set_cons_zero, List.set_cons_succ]
      refine wpAnyH_take (i := 12) (oi := { dst := some 73, op := _, type := _, pos := _, after := _, guard := _ }) (v := undef) rfl (by kernel_rfl) (by kernel_rfl) (by kernel_rfl) (fun _ _ _ h => h) (Or.inr ⟨by rfl, rfl⟩) (by assumption) ?_
      try simp only [Act.put, List.setIfInBounds_toArray, List.set_cons_zero, List.set_cons_succ]
      refine wpAnyH_take (i := 13) (oi := { dst := some 74, op := _, type := _, pos := _, after := _, guard := _ }) (v := ?_) rfl (by kernel_rfl) (by kernel_rfl) (by kernel_rfl) (fun _ _ _ h => h) (Or.inl ⟨by rfl, ?_⟩) (by assumption) ?_
      rotate_left
      · intro w hSw
        first | (go_simp; done) | (go_simp; with_reducible rfl)
      try simp only [Act.put, List.setIfInBounds_toArray, List.set_cons_zero, List.set_cons_succ]
      refine wpAnyH_take (i := 14) (oi := { dst := some 75, op := _, type := _, pos := _, after := _, guard := _ }) (v := ?_) rfl (by kernel_rfl) (by kernel_rfl) (by kernel_rfl) (fun _ _ _ h => h) (Or.inl ⟨by rfl, ?_⟩) (by assumption) ?_
      rotate_left
      · intro w hSw
        first | (go_simp; done) | (go_simp; with_reducible rfl)
      try simp only [Act.put, List.setIfInBounds_toArray, List.set_cons_zero, List.set_cons_succ]
      refine wpAnyH_take (i := 15) (oi := { dst := some 4, op := _, type := _, pos := _, after := _, guard := _ }) (v := ?_) rfl (by kernel_rfl) (by kernel_rfl) (by kernel_rfl) (fun _ _ _ h => h) (Or.inl ⟨by rfl, ?_⟩) (by assumption) ?_
      rotate_left
      · intro w hSw
        first | (go_simp; done) | (go_simp; with_reducible rfl)
      try simp only [Act.put, List.setIfInBounds_toArray, List.set_cons_zero, List.set_cons_succ]
      refine wpAnyH_done (by kernel_rfl) ?_ _
      replace HB := hide (below_tr (unhide HB) HD)
      replace HE := hide ((unhide HE).bel HD)
      replace HX := hide ((unhide HX).bel HD)
      clear HD 
      have x0 := (unhide HE).cell 0 rfl
      have x1 := (unhide HE).cell 1 rfl
      have x2 := (unhide HE).cell 2 rfl
      have x3 := (unhide HE).cell 3 rfl
      have v0 := (unhide HX).cell 0 rfl
      have v1 := (unhide HX).cell 1 rfl
      have v2 := (unhide HX).cell 2 rfl
      have v3 := (unhide HX).cell 3 rfl
      go_wp2_with fail
      go_ret
      exact ⟨rfl, unhide HB⟩
    have hne := leaf_77 ek et eu ep (ent_price hk2)
    rw [unhide HLF] at hne
    generalize hl7 : Tm.leaf [ek, et, eu, 77] = l7 at *
    have HL7 := hide hl7
    have hnb : (l7 != lf) = true := by rw [bne_iff_ne]; exact hne
    clear hl7
    generalize wr.alloc (.cells #[.int .i64 ek, .int .i64 et, .int .i64 eu, .int .i64 77] 24) = WW at *
    (try clear x0 x1 x2 x3 v0 v1 v2 v3)
    refine wp_region_held_drew (S := fun w' => Below WW.heap.size WW w') (by kernel_rfl) (below_drew WW) (fun hHeld => ?_)
    refine wpAnyH_take (i := 0) (oi := { dst := some 61, op := _, type := _, pos := _, after := _, guard := _ }) (v := ?_) rfl (by kernel_rfl) (by kernel_rfl) (by kernel_rfl) (fun _ _ _ h => h) (Or.inl ⟨by rfl, ?_⟩) (by assumption) ?_
    rotate_left
    · intro w hSw
      have hT := (unhide HE).below hSw; have x0 := hT.cell 0 rfl; have x1 := hT.cell 1 rfl; have x2 := hT.cell 2 rfl; have x3 := hT.cell 3 rfl; clear hT; have hT := (unhide HX).below hSw; have v0 := hT.cell 0 rfl; have v1 := hT.cell 1 rfl; have v2 := hT.cell 2 rfl; have v3 := hT.cell 3 rfl; clear hT
      first | (go_simp; done) | (go_simp; with_reducible rfl)
    try simp only [Act.put, List.setIfInBounds_toArray, List.set_cons_zero, List.set_cons_succ]
    have HD := below_drew WW
    generalize WW.drew = V0 at *
    refine wpAnyH_ready (rs := [1]) (by kernel_rfl) (by simp) ?_
    refine AllReadyH.cons (o := { dst := some 62, op := _, type := _, pos := _, after := _, guard := _ }) rfl (fun K hK => ?_) AllReadyH.nil
    go_simp
    go_at_call 30
    refine (c30 ek et eu ep _ (unhide HF)).mono ?_
    rintro e V1 ⟨rfl, hb⟩
    replace HD := below_then HD hb
    clear hb
    rw [unhide HLF]
    try go_wp2_with fail
    refine hK.out _ _ HD (fun hHeld => ?_)
    clear hK K hHeld
    try simp only [Act.put, List.setIfInBounds_toArray, List.set_cons_zero, List.set_cons_succ]
    refine wpAnyH_ready (rs := [2]) (by kernel_rfl) (by simp) ?_
    refine AllReadyH.cons (o := { dst := some 63, op := _, type := _, pos := _, after := _, guard := _ }) rfl (fun K hK => ?_) AllReadyH.nil
    go_simp
    go_at_call 34
    refine (c34 lf _).mono ?_
    rintro e V2 ⟨rfl, hww⟩
    have hww := hww.symm
    subst hww
    rw [unhide HOK]
    try go_wp2_with fail
    refine hK.out _ _ HD (fun hHeld => ?_)
    clear hK K hHeld
    try simp only [Act.put, List.setIfInBounds_toArray, List.set_cons_zero, List.set_cons_succ]
    refine wpAnyH_take (i := 3) (oi := { dst := some 64, op := _, type := _, pos := _, after := _, guard := _ }) (v := ?_) rfl (by kernel_rfl) (by kernel_rfl) (by kernel_rfl) (fun _ _ _ h => h) (Or.inl ⟨by rfl, ?_⟩) (by assumption) ?_
    rotate_left
    · intro w hSw
      first | (go_simp; done) | (go_simp; with_reducible rfl)
    try simp only [Act.put, List.setIfInBounds_toArray, List.set_cons_zero, List.set_cons_succ]
    refine wpAnyH_take (i := 4) (oi := { dst := some 65, op := _, type := _, pos := _, after := _, guard := _ }) (v := ?_) rfl (by kernel_rfl) (by kernel_rfl) (by kernel_rfl) (fun _ _ _ h => h) (Or.inl ⟨by rfl, ?_⟩) (by assumption) ?_
    rotate_left
    · intro w hSw
      have hT := (unhide HE).below hSw; have x0 := hT.cell 0 rfl; have x1 := hT.cell 1 rfl; have x2 := hT.cell 2 rfl; have x3 := hT.cell 3 rfl; clear hT; have hT := (unhide HX).below hSw; have v0 := hT.cell 0 rfl; have v1 := hT.cell 1 rfl; have v2 := hT.cell 2 rfl; have v3 := hT.cell 3 rfl; clear hT
      first | (go_simp; done) | (go_simp; with_reducible rfl)
    try simp only [Act.put, List.setIfInBounds_toArray, List.set_cons_zero, List.set_cons_succ]
    refine wpAnyH_ready (rs := [5]) (by kernel_rfl) (by simp) ?_
    refine AllReadyH.cons (o := { dst := some 66, op := _, type := _, pos := _, after := _, guard := _ }) rfl (fun K hK => ?_) AllReadyH.nil
    go_simp
    go_at_call 35
    refine (c35 ek et eu ep _).mono ?_
    rintro e V3 ⟨rfl, hb⟩
    replace HD := below_then HD hb
    clear hb
    rw [hk2]
    try go_wp2_with fail
    refine hK.out _ _ HD (fun hHeld => ?_)
    clear hK K hHeld
    try simp only [Act.put, List.setIfInBounds_toArray, List.set_cons_zero, List.set_cons_succ]
    refine wpAnyH_take (i := 6) (oi := { dst := some 67, op := _, type := _, pos := _, after := _, guard := _ }) (v := ?_) rfl (by kernel_rfl) (by kernel_rfl) (by kernel_rfl) (fun _ _ _ h => h) (Or.inl ⟨by rfl, ?_⟩) (by assumption) ?_
    rotate_left
    · intro w hSw
      first | (go_simp; done) | (go_simp; with_reducible rfl)
    try simp only [Act.put, List.setIfInBounds_toArray, List.set_cons_zero, List.set_cons_succ]
    refine wpAnyH_take (i := 7) (oi := { dst := some 68, op := _, type := _, pos := _, after := _, guard := _ }) (v := ?_) rfl (by kernel_rfl) (by kernel_rfl) (by kernel_rfl) (fun _ _ _ h => h) (Or.inl ⟨by rfl, ?_⟩) (by assumption) ?_
    rotate_left
    · intro w hSw
      first | (go_simp; done) | (go_simp; with_reducible rfl)
    try simp only [Act.put, List.setIfInBounds_toArray, List.set_cons_zero, List.set_cons_succ]
    refine wpAnyH_take (i := 8) (oi := { dst := some 69, op := _, type := _, pos := _, after := _, guard := _ }) (v := ?_) rfl (by kernel_rfl) (by kernel_rfl) (by kernel_rfl) (fun _ _ _ h => h) (Or.inl ⟨by rfl, ?_⟩) (by assumption) ?_
    rotate_left
    · intro w hSw
      have hT := (unhide HE).below hSw; have x0 := hT.cell 0 rfl; have x1 := hT.cell 1 rfl; have x2 := hT.cell 2 rfl; have x3 := hT.cell 3 rfl; clear hT; have hT := (unhide HX).below hSw; have v0 := hT.cell 0 rfl; have v1 := hT.cell 1 rfl; have v2 := hT.cell 2 rfl; have v3 := hT.cell 3 rfl; clear hT
      first | (go_simp; done) | (go_simp; with_reducible rfl)
    try simp only [Act.put, List.setIfInBounds_toArray, List.set_cons_zero, List.set_cons_succ]
    refine wpAnyH_take (i := 10) (oi := { dst := some 71, op := _, type := _, pos := _, after := _, guard := _ }) (v := ?_) rfl (by kernel_rfl) (by kernel_rfl) (by kernel_rfl) (fun _ _ _ h => h) (Or.inl ⟨by rfl, ?_⟩) (by assumption) ?_
    rotate_left
    · intro w hSw
      have hT := (unhide HE).below hSw; have x0 := hT.cell 0 rfl; have x1 := hT.cell 1 rfl; have x2 := hT.cell 2 rfl; have x3 := hT.cell 3 rfl; clear hT; have hT := (unhide HX).below hSw; have v0 := hT.cell 0 rfl; have v1 := hT.cell 1 rfl; have v2 := hT.cell 2 rfl; have v3 := hT.cell 3 rfl; clear hT
      first | (go_simp; done) | (go_simp; with_reducible rfl)
    try simp only [Act.put, List.setIfInBounds_toArray, List.set_cons_zero, List.set_cons_succ]
    refine wpAnyH_ready (rs := [9]) (by kernel_rfl) (by simp) ?_
    refine AllReadyH.cons (o := { dst := some 70, op := _, type := _, pos := _, after := _, guard := _ }) rfl (fun K hK => ?_) AllReadyH.nil
    go_simp
    go_at_call 30
    refine (c30 ek et eu 77 _ (unhide HF7)).mono ?_
    rintro e V4 ⟨rfl, hb⟩
    replace HD := below_then HD hb
    clear hb
    rw [unhide HL7]
    try go_wp2_with fail
    refine hK.out _ _ HD (fun hHeld => ?_)
    clear hK K hHeld
    try simp only [Act.put, List.setIfInBounds_toArray, List.set_cons_zero, List.set_cons_succ]
    refine wpAnyH_ready (rs := [11]) (by kernel_rfl) (by simp) ?_
    refine AllReadyH.cons (o := { dst := some 72, op := _, type := _, pos := _, after := _, guard := _ }) rfl (fun K hK => ?_) AllReadyH.nil
    go_simp
    go_at_call 30
    refine (c30 ek et eu ep _ (unhide HF)).mono ?_
    rintro e V5 ⟨rfl, hb⟩
    replace HD := below_then HD hb
    clear hb
    rw [unhide HLF]
    try go_wp2_with fail
    refine hK.out _ _ HD (fun hHeld => ?_)
    clear hK K hHeld
    try simp only [Act.put, List.setIfInBounds_toArray, List.set_cons_zero, List.set_cons_succ]
    refine wpAnyH_take (i := 12) (oi := { dst := some 73, op := _, type := _, pos := _, after := _, guard := _ }) (v := ?_) rfl (by kernel_rfl) (by kernel_rfl) (by kernel_rfl) (fun _ _ _ h => h) (Or.inl ⟨by rfl, ?_⟩) (by assumption) ?_
    rotate_left
    · intro w hSw
      first | (go_simp; done) | (go_simp; with_reducible rfl)
    try simp only [Act.put, List.setIfInBounds_toArray, List.set_cons_zero, List.set_cons_succ]
    refine wpAnyH_take (i := 13) (oi := { dst := some 74, op := _, type := _, pos := _, after := _, guard := _ }) (v := ?_) rfl (by kernel_rfl) (by kernel_rfl) (by kernel_rfl) (fun _ _ _ h => h) (Or.inl ⟨by rfl, ?_⟩) (by assumption) ?_
    rotate_left
    · intro w hSw
      first | (go_simp; done) | (go_simp; with_reducible rfl)
    try simp only [Act.put, List.setIfInBounds_toArray, List.set_cons_zero, List.set_cons_succ]
    refine wpAnyH_take (i := 14) (oi := { dst := some 75, op := _, type := _, pos := _, after := _, guard := _ }) (v := ?_) rfl (by kernel_rfl) (by kernel_rfl) (by kernel_rfl) (fun _ _ _ h => h) (Or.inl ⟨by rfl, ?_⟩) (by assumption) ?_
    rotate_left
    · intro w hSw
      first | (go_simp; done) | (go_simp; with_reducible rfl)
    try simp only [Act.put, List.setIfInBounds_toArray, List.set_cons_zero, List.set_cons_succ]
    refine wpAnyH_take (i := 15) (oi := { dst := some 4, op := _, type := _, pos := _, after := _, guard := _ }) (v := ?_) rfl (by kernel_rfl) (by kernel_rfl) (by kernel_rfl) (fun _ _ _ h => h) (Or.inl ⟨by rfl, ?_⟩) (by assumption) ?_
    rotate_left
    · intro w hSw
      first | (go_simp; done) | (go_simp; with_reducible rfl)
    try simp only [Act.put, List.setIfInBounds_toArray, List.set_cons_zero, List.set_cons_succ]
    refine wpAnyH_done (by kernel_rfl) ?_ _
    replace HB := hide (below_tr (unhide HB) HD)
    replace HE := hide ((unhide HE).bel HD)
    replace HX := hide ((unhide HX).bel HD)
    clear HD 
    have x0 := (unhide HE).cell 0 rfl
    have x1 := (unhide HE).cell 1 rfl
    have x2 := (unhide HE).cell 2 rfl
    have x3 := (unhide HE).cell 3 rfl
    have v0 := (unhide HX).cell 0 rfl
    have v1 := (unhide HX).cell 1 rfl
    have v2 := (unhide HX).cell 2 rfl
    have v3 := (unhide HX).cell 3 rfl
    go_wp2_with fail
    go_ret
    exact ⟨rfl, unhide HB⟩
end Go.Proofs.Ytimaidcjccakeaa
