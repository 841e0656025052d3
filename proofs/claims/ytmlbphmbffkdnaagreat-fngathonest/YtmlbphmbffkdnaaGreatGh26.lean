/-
  Texts of the proof, what it needs of them: Hedd.
-/
import Derived.Test.YtmlbphmbffkdnaaGreatGh15
import Derived.Test.YtmlbphmbffkdnaaGreatGh23
import Derived.Test.YtmlbphmbffkdnaaGreatGh25
namespace Go.Proofs.YtmlbphmbffkdnaaGreat
open Go.RowKit
set_option linter.unusedVariables false
set_option maxRecDepth 100000

/-- the head of entries, part by part -/
def hS (es : List Tm.Ent) : Int := if foldIs es = true then (es.length : Int) else 0
def hL (es : List Tm.Ent) : Int := if foldIs es = true then Tm.treRoot (Tm.entLeaves es) else 0
def hO (es : List Tm.Ent) : Int := if foldIs es = true then ownRoot (foldRows es) else 0
theorem hed_no {es : List Tm.Ent} (h : foldIs es = false) : hS es = 0 ∧ hL es = 0 ∧ hO es = 0 := by unfold hS hL hO; simp [h]
theorem hed_yes {es : List Tm.Ent} (h : foldIs es = true) : hS es = (es.length : Int) ∧ hL es = Tm.treRoot (Tm.entLeaves es) ∧ hO es = ownRoot (foldRows es) := by unfold hS hL hO; simp [h]
theorem foldIs_len {es : List Tm.Ent} (h : foldIs es = true) : es.length ≤ 40 := by
  by_cases h40 : es.length ≤ 40
  · exact h40
  · rw [(fold_none (ownFold_long h40)).2] at h; cases h
theorem entLeaves_ln (es : List Tm.Ent) : (Tm.entLeaves es).length = es.length := by simp [Tm.entLeaves]
theorem entLeaves_okAll (es : List Tm.Ent) : Tm.okAll (Tm.entLeaves es) = true := by
  unfold Tm.entLeaves Tm.okAll
  rw [List.all_eq_true]
  intro x hx
  obtain ⟨e, -, rfl⟩ := List.mem_map.1 hx
  exact Tm.leaf_ok _
theorem entLeaves_treOk {es : List Tm.Ent} (h : es.length ≤ 40) : Tm.treOk (Tm.entLeaves es) = true := by
  unfold Tm.treOk
  rw [entLeaves_okAll, entLeaves_ln, decide_eq_true h]; rfl
theorem below_s3 {A W : World} {g : Nat} {a b c : Value} (h : Below A.heap.size A W) (hg : A.heap.size ≤ g) : Below A.heap.size A (((W.setCell ⟨g, 0, none⟩ a).setCell ⟨g, 1, none⟩ b).setCell ⟨g, 2, none⟩ c) :=
  ((h.setCell (p := ⟨g, 0, none⟩) hg _).setCell (p := ⟨g, 1, none⟩) hg _).setCell (p := ⟨g, 2, none⟩) hg _
/-- a head and whether there is one -/
def HedTold (w : World) (s l o : Int) (b : Bool) (e : Ending) (w' : World) : Prop := e = .returned (.tuple #[hedV s l o, .bool b]) ∧ Below w.heap.size w w'

theorem root_of_ok {zs : List Int} (h : Tm.treOk zs = true) : Tm.treRoot zs = Tm.root zs := by unfold Tm.treRoot; rw [if_pos h]

set_option maxHeartbeats 4000000 in
theorem c15 (es : List Tm.Ent) (ao : Option Addr) (n cap : Nat) (w : World) (hn : es.length = n) (hcap : n ≤ cap) (hm : n ≤ 1048576) (hr : ERow w ao es) :
    Calls Tryz.prog 15 #[.slice ao n cap] w (HedTold w (hS es) (hL es) (hO es) (foldIs es)) := by
  have HZ := hide (box_new w [.int .i64 0, .int .i64 0, .int .i64 0] 24 (by simp [Value.oneCell']))
  have HB := hide (below_a (w := w) (.cells #[.int .i64 0, .int .i64 0, .int .i64 0] 24))
  have HR := hide (hr.bel (below_a (.cells #[.int .i64 0, .int .i64 0, .int .i64 0] 24)))
  have HN := hide hn
  clear hr hn
  have z0 := (unhide HZ).cell 0 rfl
  have z0f := (unhide HZ).frozen 0 rfl
  have z1 := (unhide HZ).cell 1 rfl
  have z1f := (unhide HZ).frozen 1 rfl
  have z2 := (unhide HZ).cell 2 rfl
  have z2f := (unhide HZ).frozen 2 rfl
  go_enter Tryz.func15, Tryz.ntmps15
  go_wp2_with fail
  refine (c17 es _ n cap _ (unhide HN) hm (unhide HR)).mono ?_
  rintro e w1 ⟨v, rfl, ho, hb⟩
  obtain ⟨ar, capr, rfl, hcr, hrr, -⟩ := ho.row
  clear z0 z0f z1 z1f z2 z2f
  replace HB := hide (below_tr (unhide HB) hb)
  replace HZ := hide ((unhide HZ).bel hb)
  replace HR := hide ((unhide HR).bel hb)
  have HW := hide (hrr)
  clear hb ho hrr
  have z0 := (unhide HZ).cell 0 rfl
  have z0f := (unhide HZ).frozen 0 rfl
  have z1 := (unhide HZ).cell 1 rfl
  have z1f := (unhide HZ).frozen 1 rfl
  have z2 := (unhide HZ).cell 2 rfl
  have z2f := (unhide HZ).frozen 2 rfl
  have hl8 := foldRows_len es
  rcases hf : foldIs es with _ | _
  case false =>
    obtain ⟨u0, u1, u2⟩ := hed_no hf
    have HU0 := hide u0
    have HU1 := hide u1
    have HU2 := hide u2
    clear u0 u1 u2
    go_wp2_with fail
    exact bodyPost_ret (v := .tuple #[hedV (hS es) (hL es) (hO es), .bool false]) (by simp [results, Tryz.results15, go_sem, z0, z1, z2, unhide HU0, unhide HU1, unhide HU2]) rfl ⟨by rw [hf], below_s3 (unhide HB) (Nat.le_refl _)⟩
  obtain ⟨u0, u1, u2⟩ := hed_yes hf
  have hl40 := foldIs_len hf
  rw [unhide HN] at hl40 u0
  have HU0 := hide u0
  have HU1 := hide u1
  have HU2 := hide u2
  have HLL := hide (entLeaves_ln es)
  have HLO := hide (entLeaves_treOk (es := es) (by rw [unhide HN]; exact hl40))
  clear u0 u1 u2
  go_wp2_with fail
  refine (c51 es _ n cap _ (unhide HN) hm (unhide HR)).mono ?_
  rintro e w2 ⟨v2, rfl, ho, hb⟩
  obtain ⟨al, capl, rfl, hcl, hrl, -⟩ := ho.row
  rw [unhide HLL, unhide HN] at hcl ⊢
  clear z0 z0f z1 z1f z2 z2f
  replace HB := hide (below_tr (unhide HB) hb)
  replace HZ := hide ((unhide HZ).bel hb)
  replace HR := hide ((unhide HR).bel hb)
  replace HW := hide ((unhide HW).bel hb)
  have HLV := hide (hrl)
  clear hb ho hrl
  have z0 := (unhide HZ).cell 0 rfl
  have z0f := (unhide HZ).frozen 0 rfl
  have z1 := (unhide HZ).cell 1 rfl
  have z1f := (unhide HZ).frozen 1 rfl
  have z2 := (unhide HZ).cell 2 rfl
  have z2f := (unhide HZ).frozen 2 rfl
  go_wp2_with fail
  refine (c50 (Tm.entLeaves es) _ n capl _ ((unhide HLL).trans (unhide HN)) hcl hm (unhide HLV)).mono ?_
  rintro e w3 ⟨rfl, hb⟩
  clear z0 z0f z1 z1f z2 z2f
  replace HB := hide (below_tr (unhide HB) hb)
  replace HZ := hide ((unhide HZ).bel hb)
  replace HR := hide ((unhide HR).bel hb)
  replace HW := hide ((unhide HW).bel hb)
  clear HLV
  clear hb
  have z0 := (unhide HZ).cell 0 rfl
  have z0f := (unhide HZ).frozen 0 rfl
  have z1 := (unhide HZ).cell 1 rfl
  have z1f := (unhide HZ).frozen 1 rfl
  have z2 := (unhide HZ).cell 2 rfl
  have z2f := (unhide HZ).frozen 2 rfl
  go_wp2_with fail
  refine (c52 (foldRows es) _ _ capr _ rfl (by omega) (unhide HW)).mono ?_
  rintro e w4 ⟨rfl, hb⟩
  clear z0 z0f z1 z1f z2 z2f
  replace HB := hide (below_tr (unhide HB) hb)
  replace HZ := hide ((unhide HZ).bel hb)
  replace HR := hide ((unhide HR).bel hb)
  replace HW := hide ((unhide HW).bel hb)
  clear hb
  have z0 := (unhide HZ).cell 0 rfl
  have z0f := (unhide HZ).frozen 0 rfl
  have z1 := (unhide HZ).cell 1 rfl
  have z1f := (unhide HZ).frozen 1 rfl
  have z2 := (unhide HZ).cell 2 rfl
  have z2f := (unhide HZ).frozen 2 rfl
  go_wp2_with fail
  exact bodyPost_ret (v := .tuple #[hedV (hS es) (hL es) (hO es), .bool true]) (by simp [results, Tryz.results15, go_sem, z0, z1, z2, unhide HU0, unhide HU1, unhide HU2]) rfl ⟨by rw [hf], below_s3 (unhide HB) (Nat.le_refl _)⟩

set_option maxHeartbeats 4000000 in
theorem c16 (es : List Tm.Ent) (ao : Option Addr) (n cap : Nat) (w : World) (hn : es.length = n) (hcap : n ≤ cap) (hm : n ≤ 1048576) (hr : ERow w ao es) :
    Calls Tryz.prog 16 #[.slice ao n cap] w (HedTold w (hS es) (hL es) (hO es) (foldIs es)) := by
  have HZ := hide (box_new w [.int .i64 0, .int .i64 0, .int .i64 0] 24 (by simp [Value.oneCell']))
  have HB := hide (below_a (w := w) (.cells #[.int .i64 0, .int .i64 0, .int .i64 0] 24))
  have HR := hide (hr.bel (below_a (.cells #[.int .i64 0, .int .i64 0, .int .i64 0] 24)))
  have HN := hide hn
  clear hr hn
  have z0 := (unhide HZ).cell 0 rfl
  have z0f := (unhide HZ).frozen 0 rfl
  have z1 := (unhide HZ).cell 1 rfl
  have z1f := (unhide HZ).frozen 1 rfl
  have z2 := (unhide HZ).cell 2 rfl
  have z2f := (unhide HZ).frozen 2 rfl
  go_enter Tryz.func16, Tryz.ntmps16
  go_wp2_with fail
  refine (c28 es _ n cap _ (unhide HN) hm (unhide HR)).mono ?_
  rintro e w1 ⟨v, rfl, ho, hb⟩
  obtain ⟨ar, capr, rfl, hcr, hrr, -⟩ := ho.row
  clear z0 z0f z1 z1f z2 z2f
  replace HB := hide (below_tr (unhide HB) hb)
  replace HZ := hide ((unhide HZ).bel hb)
  replace HR := hide ((unhide HR).bel hb)
  have HW := hide (hrr)
  clear hb ho hrr
  have z0 := (unhide HZ).cell 0 rfl
  have z0f := (unhide HZ).frozen 0 rfl
  have z1 := (unhide HZ).cell 1 rfl
  have z1f := (unhide HZ).frozen 1 rfl
  have z2 := (unhide HZ).cell 2 rfl
  have z2f := (unhide HZ).frozen 2 rfl
  have hl8 := foldRows_len es
  rcases hf : foldIs es with _ | _
  case false =>
    obtain ⟨u0, u1, u2⟩ := hed_no hf
    have HU0 := hide u0
    have HU1 := hide u1
    have HU2 := hide u2
    clear u0 u1 u2
    go_wp2_with fail
    exact bodyPost_ret (v := .tuple #[hedV (hS es) (hL es) (hO es), .bool false]) (by simp [results, Tryz.results16, go_sem, z0, z1, z2, unhide HU0, unhide HU1, unhide HU2]) rfl ⟨by rw [hf], below_s3 (unhide HB) (Nat.le_refl _)⟩
  obtain ⟨u0, u1, u2⟩ := hed_yes hf
  have hl40 := foldIs_len hf
  rw [unhide HN] at hl40 u0
  have HU0 := hide u0
  have HU1 := hide u1
  have HU2 := hide u2
  have HLL := hide (entLeaves_ln es)
  have HLO := hide (entLeaves_treOk (es := es) (by rw [unhide HN]; exact hl40))
  clear u0 u1 u2
  go_wp2_with fail
  refine (c54 es _ n cap _ (unhide HN) hm (unhide HR)).mono ?_
  rintro e w2 ⟨v2, rfl, ho, hb⟩
  obtain ⟨al, capl, rfl, hcl, hrl, -⟩ := ho.row
  rw [unhide HLL, unhide HN] at hcl ⊢
  clear z0 z0f z1 z1f z2 z2f
  replace HB := hide (below_tr (unhide HB) hb)
  replace HZ := hide ((unhide HZ).bel hb)
  replace HR := hide ((unhide HR).bel hb)
  replace HW := hide ((unhide HW).bel hb)
  have HLV := hide (hrl)
  clear hb ho hrl
  have z0 := (unhide HZ).cell 0 rfl
  have z0f := (unhide HZ).frozen 0 rfl
  have z1 := (unhide HZ).cell 1 rfl
  have z1f := (unhide HZ).frozen 1 rfl
  have z2 := (unhide HZ).cell 2 rfl
  have z2f := (unhide HZ).frozen 2 rfl
  go_wp2_with fail
  refine (dnB (c53 n (Tm.entLeaves es) _ n capl _ (by rw [unhide HLL, unhide HN]; exact Nat.le_refl _) ((unhide HLL).trans (unhide HN)) hl40 hcl (unhide HLV))).mono ?_
  rintro e w3 ⟨rfl, hb⟩
  rw [← root_of_ok (unhide HLO)]
  clear z0 z0f z1 z1f z2 z2f
  replace HB := hide (below_tr (unhide HB) hb)
  replace HZ := hide ((unhide HZ).bel hb)
  replace HR := hide ((unhide HR).bel hb)
  replace HW := hide ((unhide HW).bel hb)
  clear HLV
  clear hb
  have z0 := (unhide HZ).cell 0 rfl
  have z0f := (unhide HZ).frozen 0 rfl
  have z1 := (unhide HZ).cell 1 rfl
  have z1f := (unhide HZ).frozen 1 rfl
  have z2 := (unhide HZ).cell 2 rfl
  have z2f := (unhide HZ).frozen 2 rfl
  go_wp2_with fail
  refine (c55 (foldRows es) _ _ capr _ rfl (by omega) (unhide HW)).mono ?_
  rintro e w4 ⟨rfl, hb⟩
  clear z0 z0f z1 z1f z2 z2f
  replace HB := hide (below_tr (unhide HB) hb)
  replace HZ := hide ((unhide HZ).bel hb)
  replace HR := hide ((unhide HR).bel hb)
  replace HW := hide ((unhide HW).bel hb)
  clear hb
  have z0 := (unhide HZ).cell 0 rfl
  have z0f := (unhide HZ).frozen 0 rfl
  have z1 := (unhide HZ).cell 1 rfl
  have z1f := (unhide HZ).frozen 1 rfl
  have z2 := (unhide HZ).cell 2 rfl
  have z2f := (unhide HZ).frozen 2 rfl
  go_wp2_with fail
  exact bodyPost_ret (v := .tuple #[hedV (hS es) (hL es) (hO es), .bool true]) (by simp [results, Tryz.results16, go_sem, z0, z1, z2, unhide HU0, unhide HU1, unhide HU2]) rfl ⟨by rw [hf], below_s3 (unhide HB) (Nat.le_refl _)⟩

end Go.Proofs.YtmlbphmbffkdnaaGreat
