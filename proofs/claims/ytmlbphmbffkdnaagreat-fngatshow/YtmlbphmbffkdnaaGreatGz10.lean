/-
  Texts of the proof, what it needs of them: Enl.
-/
import Derived.Test.YtmlbphmbffkdnaaGreatGz03
import Derived.Test.YtmlbphmbffkdnaaGreatGz07
namespace Go.Proofs.YtmlbphmbffkdnaaGreat
open Go.RowKit
set_option linter.unusedVariables false
set_option maxRecDepth 100000

theorem news_new {W : World} {cs : List Value} {t : TypeId} {g : Nat} (hg : g = W.heap.size) : ∀ j u, cs[j]? = some u → (W.alloc (.cells cs.toArray t)).cell? ((⟨g, 0, none⟩ : Addr).add j) = some u := by
  subst hg
  intro j u hu
  have hadd : (⟨W.heap.size, 0, none⟩ : Addr).add j = ⟨W.heap.size, j, none⟩ := by unfold Addr.add; split <;> simp_all
  rw [hadd, World.cell?_alloc_new]
  simpa using hu
end Go.Proofs.YtmlbphmbffkdnaaGreat
namespace Go.Proofs.YtmlbphmbffkdnaaGreat
open Go.RowKit
set_option linter.unusedVariables false
set_option maxRecDepth 100000

def Tm.entLeaf (e : Tm.Ent) : Int := Tm.leaf [e.1, e.2.1, e.2.2.1, e.2.2.2]
def Tm.entLeaves (es : List Tm.Ent) : List Int := es.map Tm.entLeaf
theorem leaf_fits (l : List Int) : -9223372036854775808 ≤ Tm.leaf l ∧ Tm.leaf l ≤ 9223372036854775807 := by have := Tm.leaf_bd l; omega
theorem mem_at {α : Type} {xs : List α} {k : Nat} {x : α} (h : xs[k]? = some x) : x ∈ xs := List.mem_of_getElem? h
theorem entLeaves_take {es : List Tm.Ent} {k : Nat} {x : Tm.Ent} (h : es.take (k + 1) = es.take k ++ [x]) : Tm.entLeaves (es.take (k + 1)) = Tm.entLeaves (es.take k) ++ [Tm.entLeaf x] := by
  rw [h]; simp [Tm.entLeaves]
theorem entLeaves_len (es : List Tm.Ent) (k : Nat) : (Tm.entLeaves (es.take k)).length ≤ es.length := by simp [Tm.entLeaves]; omega

theorem own_nil (w : World) : Own w w.heap.size (.slice none 0 0) [] := ⟨fun z hz => by simp at hz, by simp, Or.inl ⟨rfl, rfl⟩⟩
theorem own_fin2 {w w1 w2 : World} {v v' : Value} {zs : List Int} {x : Int} {o : Obj} (h0 : Below w.heap.size w w1) (ho : Own w1 w.heap.size v zs) (hx : -9223372036854775808 ≤ x ∧ x ≤ 9223372036854775807)
    (hown : w2.ownsRow w.heap.size 3 1 v' (zs.length + 1) (zs.map (Value.int .i64) ++ [.int .i64 x])) (hg : (w1.alloc o).grownBy w2 v.ownBlock) : Own w2 w.heap.size v' (zs ++ [x]) ∧ Below w.heap.size w w2 :=
  ⟨own_snoc ho.1 hx hown, (h0.alloc h0.size o).grown hg (by have := h0.size; simp; omega) (fun k hk => own_block ho k hk)⟩

set_option maxHeartbeats 1000000 in
theorem c51 (es : List Tm.Ent) (ao : Option Addr) (n cap : Nat) (w : World) (hn : es.length = n) (hm : n ≤ 1048576) (hr : ERow w ao es) :
    Calls Tryz.prog 51 #[.slice ao n cap] w (Told w (Tm.entLeaves es)) := by
  subst hn
  obtain ⟨hfit, hr⟩ := hr
  obtain ⟨i0, hi, hz0, hz1, hz2⟩ := info_parts Tryz.info3
  have HO := hide (own_nil w)
  have HR := hide hr
  have HF := hide hfit
  clear hr hfit
  go_enter Tryz.func51, Tryz.ntmps51
  go_wp2_with fail
  go_loopw [3, 8] (fun v i wr => ∃ k : Nat, k ≤ es.length ∧ i = .int .i64 k ∧ Own wr w.heap.size v (Tm.entLeaves (es.take k)) ∧ Below w.heap.size w wr) (fun _ i _ => es.length - (intOf i).toNat)
  case atStart => exact ⟨0, Nat.zero_le _, rfl, unhide HO, Below.refl _ _⟩
  case round =>
    obtain ⟨k, hk, rfl, hown, hbel⟩ := hrel
    by_cases hlt : k < es.length
    · obtain ⟨b, off, rfl, hc⟩ := unhide HR (by intro e; subst e; simp at hlt)
      obtain ⟨⟨x0, x1, x2, x3⟩, hx, htk⟩ := e_at hlt
      obtain ⟨g0, g1, g2, g3⟩ := e_cells hbel hc hx
      have hlen := entLeaves_len es k
      have HT := hide (entLeaves_take htk)
      have HX : Hid (FitsE x0 x1 x2 x3) := unhide HF _ (mem_at hx)
      have HOW := hide hown
      have HBE := hide hbel
      clear hown hbel hc hx htk HO
      generalize Tm.entLeaves (es.take k) = zs at *
      have HN := hide (leaf_fits [x0, x1, x2, x3])
      go_wp2_with fail
      refine (c84 x0 x1 x2 x3 _ (unhide HX)).mono ?_
      rintro e w2 ⟨rfl, hb2⟩
      have HB2 := hide (below_tr (below_al (unhide HBE)) hb2)
      have HO2 := hide (((unhide HOW).below (below_a _)).below hb2)
      clear hb2 HOW
      generalize hy : Tm.leaf [x0, x1, x2, x3] = y at *
      have HY := hide hy
      clear hy
      go_wp2_with (first | (at_builtin; refine wpList_append_own _ rfl _ _ 25 rfl w.heap.size 3 i0 (.int .i64 0) 1 8 Tryz.underlying25 hi hz0 hz1 hz2 rfl (by decide) _ _ _ rfl ((unhide HO2).2.alloc _) ⟨w2.heap.size, 0, none⟩ 1 1 [.int .i64 y] rfl rfl (cell_one_new _ _ _) (by simp [Value.oneCell']) (by unfold maxLen; omega) (by omega) (by have := (unhide HB2).size; simp; omega) ?_; intro v' w4 hown' hgrow _) | fail)
      have hfin := own_fin2 (unhide HB2) (unhide HO2) (unhide HN) hown' hgrow
      have H1 := hide hfin
      clear hfin hown' hgrow
      go_wp2_with fail
      go_roundw
      case rel => exact ⟨k + 1, by omega, by go_num, by rw [unhide HT]; show Own _ _ _ (zs ++ [Tm.leaf [x0, x1, x2, x3]]); rw [unhide HY]; exact (unhide H1).1, (unhide H1).2⟩
      case measure => simp [intOf]; omega
    · have hke : k = es.length := by omega
      subst hke
      rw [List.take_length] at hown
      have H1 := hide hown
      have H2 := hide hbel
      clear hown hbel
      go_wp2_with fail
      go_ret
      exact ⟨_, rfl, unhide H1, unhide H2⟩

set_option maxHeartbeats 1000000 in
theorem c54 (es : List Tm.Ent) (ao : Option Addr) (n cap : Nat) (w : World) (hn : es.length = n) (hm : n ≤ 1048576) (hr : ERow w ao es) :
    Calls Tryz.prog 54 #[.slice ao n cap] w (Told w (Tm.entLeaves es)) := by
  subst hn
  obtain ⟨hfit, hr⟩ := hr
  obtain ⟨i0, hi, hz0, hz1, hz2⟩ := info_parts Tryz.info3
  have HO := hide (own_empty w w.heap.size (Nat.le_refl _))
  have HR := hide hr
  have HF := hide hfit
  clear hr hfit
  go_enter Tryz.func54, Tryz.ntmps54
  go_wp2_with fail
  go_loopw [3, 4] (fun v i wr => ∃ k : Nat, k ≤ es.length ∧ i = .int .i64 k ∧ Own wr w.heap.size v (Tm.entLeaves (es.take k)) ∧ Below w.heap.size w wr) (fun _ i _ => es.length - (intOf i).toNat)
  case atStart => exact ⟨0, Nat.zero_le _, rfl, unhide HO, below_a _⟩
  case round =>
    obtain ⟨k, hk, rfl, hown, hbel⟩ := hrel
    by_cases hlt : k < es.length
    · obtain ⟨b, off, rfl, hc⟩ := unhide HR (by intro e; subst e; simp at hlt)
      obtain ⟨⟨x0, x1, x2, x3⟩, hx, htk⟩ := e_at hlt
      obtain ⟨g0, g1, g2, g3⟩ := e_cells hbel hc hx
      have hlen := entLeaves_len es k
      have HT := hide (entLeaves_take htk)
      have HX : Hid (FitsE x0 x1 x2 x3) := unhide HF _ (mem_at hx)
      have HOW := hide hown
      have HBE := hide hbel
      clear hown hbel hc hx htk HO
      generalize Tm.entLeaves (es.take k) = zs at *
      have HN := hide (leaf_fits [x0, x1, x2, x3])
      go_wp2_with fail
      refine (c87 x0 x1 x2 x3 _ (unhide HX)).mono ?_
      rintro e w2 ⟨rfl, hb2⟩
      have HB2 := hide (below_tr (unhide HBE) hb2)
      have HO2 := hide ((unhide HOW).below hb2)
      clear hb2 HOW
      generalize hy : Tm.leaf [x0, x1, x2, x3] = y at *
      have HY := hide hy
      clear hy
      go_wp2_with (first | (at_builtin; refine wpList_append_own _ rfl _ _ 25 rfl w.heap.size 3 i0 (.int .i64 0) 1 8 Tryz.underlying25 hi hz0 hz1 hz2 rfl (by decide) _ _ _ rfl ((unhide HO2).2.alloc _) ⟨w2.heap.size, 0, none⟩ 1 1 [.int .i64 y] rfl rfl (cell_one_new _ _ _) (by simp [Value.oneCell']) (by unfold maxLen; omega) (by omega) (by have := (unhide HB2).size; simp; omega) ?_; intro v' w4 hown' hgrow _) | fail)
      have hfin := own_fin2 (unhide HB2) (unhide HO2) (unhide HN) hown' hgrow
      have H1 := hide hfin
      clear hfin hown' hgrow
      go_wp2_with fail
      go_roundw
      case rel => exact ⟨k + 1, by omega, by go_num, by rw [unhide HT]; show Own _ _ _ (zs ++ [Tm.leaf [x0, x1, x2, x3]]); rw [unhide HY]; exact (unhide H1).1, (unhide H1).2⟩
      case measure => simp [intOf]; omega
    · have hke : k = es.length := by omega
      subst hke
      rw [List.take_length] at hown
      have H1 := hide hown
      have H2 := hide hbel
      clear hown hbel
      go_wp2_with fail
      go_ret
      exact ⟨_, rfl, unhide H1, unhide H2⟩

theorem owns_empty (w : World) (base s : Nat) (t : TypeId) (hb : base ≤ w.heap.size) : (w.alloc (.cells #[] t)).ownsRow base t s (.slice (some ⟨w.heap.size, 0, none⟩) 0 0) 0 [] :=
  ⟨by simp, Or.inr ⟨w.heap.size, 0, #[], rfl, hb, by show (w.heap.push _)[w.heap.size]? = _; rw [Array.getElem?_push_size], Nat.le_refl _, by unfold maxLen; omega, by simp, by simp⟩⟩

end Go.Proofs.YtmlbphmbffkdnaaGreat
