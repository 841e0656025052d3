/-
  Texts of the proof, what it needs of them: Keep, Enl.
-/
import Derived.Test.YtmlbphmbffkdnaaGreatGh03
import Derived.Test.YtmlbphmbffkdnaaGreatGh07
import Derived.Test.YtmlbphmbffkdnaaGreatGh08
namespace Go.Proofs.YtmlbphmbffkdnaaGreat
open Go.RowKit
set_option linter.unusedVariables false
set_option maxRecDepth 100000

theorem ownsK {w w' : World} {base n s : Nat} {t : TypeId} {v : Value} {cs : List Value} {row : Option Nat} (h : w.ownsRow base t s v n cs) (hg : w.grownBy w' row) (hne : ∀ b, v.ownBlock = some b → some b ≠ row) : w'.ownsRow base t s v n cs := by
  refine h.kept hg ?_
  cases hv : v.ownBlock with
  | none => exact Or.inl rfl
  | some b => exact Or.inr (hne b hv)
theorem owns_row {α : Type} {f : α → List Value} {w : World} {base n cap s : Nat} {t : TypeId} {ao : Option Addr} {xs : List α} (hs : ∀ x, (f x).length = s) (hn : xs.length = n) (h : w.ownsRow base t s (.slice ao n cap) n (xs.flatMap f)) : Sl f w ao xs := by
  subst hn
  obtain ⟨ao', cap', he, -, hsl, -⟩ := owns_read hs h
  cases he
  exact hsl
theorem own_rowI {w : World} {base n cap : Nat} {ao : Option Addr} {zs : List Int} (h : Own w base (.slice ao n cap) zs) : Row w ao zs := by
  obtain ⟨ao', cap', he, -, hr, -⟩ := h.row
  cases he
  exact hr
theorem grown_below {A W w' : World} {row : Option Nat} (h : Below A.heap.size A W) (hg : W.grownBy w' row) (hr : ∀ k, row = some k → A.heap.size ≤ k) : Below A.heap.size A w' := h.grown hg h.size hr

theorem Row.bel {w w' : World} {ao : Option Addr} {zs : List Int} (h : Row w ao zs) (hb : Below w.heap.size w w') : Row w' ao zs := h.below hb (Nat.le_refl _)
theorem Own.bel {w w' : World} {base : Nat} {v : Value} {zs : List Int} (h : Own w base v zs) (hb : Below w.heap.size w w') : Own w' base v zs := ⟨h.1, owns_below h.2 hb⟩
theorem Row.kpt {w w' : World} {ao : Option Addr} {zs : List Int} {row : Option Nat} (h : Row w ao zs) (hg : w.grownBy w' row) (hne : ∀ a, ao = some a → some a.block ≠ row) : Row w' ao zs := h.kept hg hne
theorem Own.kpt {w w' : World} {base : Nat} {v : Value} {zs : List Int} {row : Option Nat} (h : Own w base v zs) (hg : w.grownBy w' row) (hne : ∀ b, v.ownBlock = some b → some b ≠ row) : Own w' base v zs := ⟨h.1, ownsK h.2 hg hne⟩
def HldI (w : World) (ao : Option Addr) (zs : List Int) : Prop := Row w ao (marked zs zs.length)
theorem HldI.bel {w w' : World} {ao : Option Addr} {zs : List Int} (h : HldI w ao zs) (hb : Below w.heap.size w w') : HldI w' ao zs := Row.bel h hb
theorem Own.rd {w : World} {base n cap : Nat} {ao : Option Addr} {zs : List Int} (hn : zs.length = n) (h : Own w base (.slice ao n cap) zs) : Row w ao zs := own_rowI h
theorem EOwn.rd {w : World} {base n cap : Nat} {ao : Option Addr} {xs : List Tm.Ent} (hn : xs.length = n) (h : EOwn w base (.slice ao n cap) xs) : ERow w ao xs := by
  obtain ⟨f, h2⟩ := h
  rw [hn] at h2
  exact ⟨f, owns_row eCells_len hn h2⟩
theorem ERow.kpt {w w' : World} {ao : Option Addr} {xs : List Tm.Ent} {row : Option Nat} (h : ERow w ao xs) (hg : w.grownBy w' row) (hne : ∀ a, ao = some a → some a.block ≠ row) : ERow w' ao xs := ⟨h.1, h.2.kept hg hne⟩
theorem ERow.bel {w w' : World} {ao : Option Addr} {xs : List Tm.Ent} (h : ERow w ao xs) (hb : Below w.heap.size w w') : ERow w' ao xs := h.below hb
theorem EOwn.bel {w w' : World} {base : Nat} {v : Value} {xs : List Tm.Ent} (h : EOwn w base v xs) (hb : Below w.heap.size w w') : EOwn w' base v xs := h.below hb
theorem EOwn.kpt {w w' : World} {base : Nat} {v : Value} {xs : List Tm.Ent} {row : Option Nat} (h : EOwn w base v xs) (hg : w.grownBy w' row) (hne : ∀ b, v.ownBlock = some b → some b ≠ row) : EOwn w' base v xs := by
  obtain ⟨f, h2⟩ := h
  exact ⟨f, ownsK h2 hg hne⟩
def HldE (w : World) (ao : Option Addr) (xs : List Tm.Ent) : Prop := Sl eCells w ao ((List.range xs.length).map mkE)
theorem HldE.bel {w w' : World} {ao : Option Addr} {xs : List Tm.Ent} (h : HldE w ao xs) (hb : Below w.heap.size w w') : HldE w' ao xs := Sl.below h hb
theorem ROwn.rd {w : World} {base n cap : Nat} {ao : Option Addr} {xs : List Tm.Rw} (hn : xs.length = n) (h : ROwn w base (.slice ao n cap) xs) : RRow w ao xs := by
  obtain ⟨f, t, h2⟩ := h
  rw [hn] at h2
  exact ⟨f, owns_row rCells_len hn h2⟩
theorem RRow.kpt {w w' : World} {ao : Option Addr} {xs : List Tm.Rw} {row : Option Nat} (h : RRow w ao xs) (hg : w.grownBy w' row) (hne : ∀ a, ao = some a → some a.block ≠ row) : RRow w' ao xs := ⟨h.1, h.2.kept hg hne⟩
theorem RRow.bel {w w' : World} {ao : Option Addr} {xs : List Tm.Rw} (h : RRow w ao xs) (hb : Below w.heap.size w w') : RRow w' ao xs := h.below hb
theorem ROwn.bel {w w' : World} {base : Nat} {v : Value} {xs : List Tm.Rw} (h : ROwn w base v xs) (hb : Below w.heap.size w w') : ROwn w' base v xs := h.below hb
theorem ROwn.kpt {w w' : World} {base : Nat} {v : Value} {xs : List Tm.Rw} {row : Option Nat} (h : ROwn w base v xs) (hg : w.grownBy w' row) (hne : ∀ b, v.ownBlock = some b → some b ≠ row) : ROwn w' base v xs := by
  obtain ⟨f, t, h2⟩ := h
  exact ⟨f, t, ownsK h2 hg hne⟩
def HldR (w : World) (ao : Option Addr) (xs : List Tm.Rw) : Prop := Sl rCells w ao ((List.range xs.length).map mkR)
theorem HldR.bel {w w' : World} {ao : Option Addr} {xs : List Tm.Rw} (h : HldR w ao xs) (hb : Below w.heap.size w w') : HldR w' ao xs := Sl.below h hb
end Go.Proofs.YtmlbphmbffkdnaaGreat
namespace Go.Proofs.YtmlbphmbffkdnaaGreat
open Go.RowKit
set_option linter.unusedVariables false
set_option maxRecDepth 100000

theorem news_new {W : World} {cs : List Value} {t : TypeId} {g : Nat} (hg : g = W.heap.size) : ∀ j u, cs[j]? = some u → (W.alloc (.cells cs.toArray t)).cell? ((⟨g, 0, none⟩ : Addr).add j) = some u := by
  subst hg
  intro j u hu
  have hadd : (⟨W.heap.size, 0, none⟩ : Addr).add j = ⟨W.heap.size, j, none⟩ := by unfold Addr.add; split <;> simp_all
  rw [hadd, World.cell?_alloc_new]
  simpa using hu
end Go.Proofs.YtmlbphmbffkdnaaGreat
namespace Go.Proofs.YtmlbphmbffkdnaaGreat
open Go.RowKit
set_option linter.unusedVariables false
set_option maxRecDepth 100000

def Tm.entLeaf (e : Tm.Ent) : Int := Tm.leaf [e.1, e.2.1, e.2.2.1, e.2.2.2]
def Tm.entLeaves (es : List Tm.Ent) : List Int := es.map Tm.entLeaf
theorem leaf_fits (l : List Int) : -9223372036854775808 ≤ Tm.leaf l ∧ Tm.leaf l ≤ 9223372036854775807 := by have := Tm.leaf_bd l; omega
theorem mem_at {α : Type} {xs : List α} {k : Nat} {x : α} (h : xs[k]? = some x) : x ∈ xs := List.mem_of_getElem? h
theorem entLeaves_take {es : List Tm.Ent} {k : Nat} {x : Tm.Ent} (h : es.take (k + 1) = es.take k ++ [x]) : Tm.entLeaves (es.take (k + 1)) = Tm.entLeaves (es.take k) ++ [Tm.entLeaf x] := by
  rw [h]; simp [Tm.entLeaves]
theorem entLeaves_len (es : List Tm.Ent) (k : Nat) : (Tm.entLeaves (es.take k)).length ≤ es.length := by simp [Tm.entLeaves]; omega

theorem own_nil (w : World) : Own w w.heap.size (.slice none 0 0) [] := ⟨fun z hz => by simp at hz, by simp, Or.inl ⟨rfl, rfl⟩⟩
theorem own_fin2 {w w1 w2 : World} {v v' : Value} {zs : List Int} {x : Int} {o : Obj} (h0 : Below w.heap.size w w1) (ho : Own w1 w.heap.size v zs) (hx : -9223372036854775808 ≤ x ∧ x ≤ 9223372036854775807)
    (hown : w2.ownsRow w.heap.size 3 1 v' (zs.length + 1) (zs.map (Value.int .i64) ++ [.int .i64 x])) (hg : (w1.alloc o).grownBy w2 v.ownBlock) : Own w2 w.heap.size v' (zs ++ [x]) ∧ Below w.heap.size w w2 :=
  ⟨own_snoc ho.1 hx hown, (h0.alloc h0.size o).grown hg (by have := h0.size; simp; omega) (fun k hk => own_block ho k hk)⟩

set_option maxHeartbeats 1000000 in
theorem c51 (es : List Tm.Ent) (ao : Option Addr) (n cap : Nat) (w : World) (hn : es.length = n) (hm : n ≤ 1048576) (hr : ERow w ao es) :
    Calls Tryz.prog 51 #[.slice ao n cap] w (Told w (Tm.entLeaves es)) := by
  subst hn
  obtain ⟨hfit, hr⟩ := hr
  obtain ⟨i0, hi, hz0, hz1, hz2⟩ := info_parts Tryz.info3
  have HO := hide (own_nil w)
  have HR := hide hr
  have HF := hide hfit
  clear hr hfit
  go_enter Tryz.func51, Tryz.ntmps51
  go_wp2_with fail
  go_loopw [3, 8] (fun v i wr => ∃ k : Nat, k ≤ es.length ∧ i = .int .i64 k ∧ Own wr w.heap.size v (Tm.entLeaves (es.take k)) ∧ Below w.heap.size w wr) (fun _ i _ => es.length - (intOf i).toNat)
  case atStart => exact ⟨0, Nat.zero_le _, rfl, unhide HO, Below.refl _ _⟩
  case round =>
    obtain ⟨k, hk, rfl, hown, hbel⟩ := hrel
    by_cases hlt : k < es.length
    · obtain ⟨b, off, rfl, hc⟩ := unhide HR (by intro e; subst e; simp at hlt)
      obtain ⟨⟨x0, x1, x2, x3⟩, hx, htk⟩ := e_at hlt
      obtain ⟨g0, g1, g2, g3⟩ := e_cells hbel hc hx
      have hlen := entLeaves_len es k
      have HT := hide (entLeaves_take htk)
      have HX : Hid (FitsE x0 x1 x2 x3) := unhide HF _ (mem_at hx)
      have HOW := hide hown
      have HBE := hide hbel
      clear hown hbel hc hx htk HO
      generalize Tm.entLeaves (es.take k) = zs at *
      have HN := hide (leaf_fits [x0, x1, x2, x3])
      go_wp2_with fail
      refine (c84 x0 x1 x2 x3 _ (unhide HX)).mono ?_
      rintro e w2 ⟨rfl, hb2⟩
      have HB2 := hide (below_tr (below_al (unhide HBE)) hb2)
      have HO2 := hide (((unhide HOW).below (below_a _)).below hb2)
      clear hb2 HOW
      generalize hy : Tm.leaf [x0, x1, x2, x3] = y at *
      have HY := hide hy
      clear hy
      go_wp2_with (first | (at_builtin; refine wpList_append_own _ rfl _ _ 25 rfl w.heap.size 3 i0 (.int .i64 0) 1 8 Tryz.underlying25 hi hz0 hz1 hz2 rfl (by decide) _ _ _ rfl ((unhide HO2).2.alloc _) ⟨w2.heap.size, 0, none⟩ 1 1 [.int .i64 y] rfl rfl (cell_one_new _ _ _) (by simp [Value.oneCell']) (by unfold maxLen; omega) (by omega) (by have := (unhide HB2).size; simp; omega) ?_; intro v' w4 hown' hgrow _) | fail)
      have hfin := own_fin2 (unhide HB2) (unhide HO2) (unhide HN) hown' hgrow
      have H1 := hide hfin
      clear hfin hown' hgrow
      go_wp2_with fail
      go_roundw
      case rel => exact ⟨k + 1, by omega, by go_num, by rw [unhide HT]; show Own _ _ _ (zs ++ [Tm.leaf [x0, x1, x2, x3]]); rw [unhide HY]; exact (unhide H1).1, (unhide H1).2⟩
      case measure => simp [intOf]; omega
    · have hke : k = es.length := by omega
      subst hke
      rw [List.take_length] at hown
      have H1 := hide hown
      have H2 := hide hbel
      clear hown hbel
      go_wp2_with fail
      go_ret
      exact ⟨_, rfl, unhide H1, unhide H2⟩

set_option maxHeartbeats 1000000 in
theorem c54 (es : List Tm.Ent) (ao : Option Addr) (n cap : Nat) (w : World) (hn : es.length = n) (hm : n ≤ 1048576) (hr : ERow w ao es) :
    Calls Tryz.prog 54 #[.slice ao n cap] w (Told w (Tm.entLeaves es)) := by
  subst hn
  obtain ⟨hfit, hr⟩ := hr
  obtain ⟨i0, hi, hz0, hz1, hz2⟩ := info_parts Tryz.info3
  have HO := hide (own_empty w w.heap.size (Nat.le_refl _))
  have HR := hide hr
  have HF := hide hfit
  clear hr hfit
  go_enter Tryz.func54, Tryz.ntmps54
  go_wp2_with fail
  go_loopw [3, 4] (fun v i wr => ∃ k : Nat, k ≤ es.length ∧ i = .int .i64 k ∧ Own wr w.heap.size v (Tm.entLeaves (es.take k)) ∧ Below w.heap.size w wr) (fun _ i _ => es.length - (intOf i).toNat)
  case atStart => exact ⟨0, Nat.zero_le _, rfl, unhide HO, below_a _⟩
  case round =>
    obtain ⟨k, hk, rfl, hown, hbel⟩ := hrel
    by_cases hlt : k < es.length
    · obtain ⟨b, off, rfl, hc⟩ := unhide HR (by intro e; subst e; simp at hlt)
      obtain ⟨⟨x0, x1, x2, x3⟩, hx, htk⟩ := e_at hlt
      obtain ⟨g0, g1, g2, g3⟩ := e_cells hbel hc hx
      have hlen := entLeaves_len es k
      have HT := hide (entLeaves_take htk)
      have HX : Hid (FitsE x0 x1 x2 x3) := unhide HF _ (mem_at hx)
      have HOW := hide hown
      have HBE := hide hbel
      clear hown hbel hc hx htk HO
      generalize Tm.entLeaves (es.take k) = zs at *
      have HN := hide (leaf_fits [x0, x1, x2, x3])
      go_wp2_with fail
      refine (c87 x0 x1 x2 x3 _ (unhide HX)).mono ?_
      rintro e w2 ⟨rfl, hb2⟩
      have HB2 := hide (below_tr (unhide HBE) hb2)
      have HO2 := hide ((unhide HOW).below hb2)
      clear hb2 HOW
      generalize hy : Tm.leaf [x0, x1, x2, x3] = y at *
      have HY := hide hy
      clear hy
      go_wp2_with (first | (at_builtin; refine wpList_append_own _ rfl _ _ 25 rfl w.heap.size 3 i0 (.int .i64 0) 1 8 Tryz.underlying25 hi hz0 hz1 hz2 rfl (by decide) _ _ _ rfl ((unhide HO2).2.alloc _) ⟨w2.heap.size, 0, none⟩ 1 1 [.int .i64 y] rfl rfl (cell_one_new _ _ _) (by simp [Value.oneCell']) (by unfold maxLen; omega) (by omega) (by have := (unhide HB2).size; simp; omega) ?_; intro v' w4 hown' hgrow _) | fail)
      have hfin := own_fin2 (unhide HB2) (unhide HO2) (unhide HN) hown' hgrow
      have H1 := hide hfin
      clear hfin hown' hgrow
      go_wp2_with fail
      go_roundw
      case rel => exact ⟨k + 1, by omega, by go_num, by rw [unhide HT]; show Own _ _ _ (zs ++ [Tm.leaf [x0, x1, x2, x3]]); rw [unhide HY]; exact (unhide H1).1, (unhide H1).2⟩
      case measure => simp [intOf]; omega
    · have hke : k = es.length := by omega
      subst hke
      rw [List.take_length] at hown
      have H1 := hide hown
      have H2 := hide hbel
      clear hown hbel
      go_wp2_with fail
      go_ret
      exact ⟨_, rfl, unhide H1, unhide H2⟩

theorem owns_empty (w : World) (base s : Nat) (t : TypeId) (hb : base ≤ w.heap.size) : (w.alloc (.cells #[] t)).ownsRow base t s (.slice (some ⟨w.heap.size, 0, none⟩) 0 0) 0 [] :=
  ⟨by simp, Or.inr ⟨w.heap.size, 0, #[], rfl, hb, by show (w.heap.push _)[w.heap.size]? = _; rw [Array.getElem?_push_size], Nat.le_refl _, by unfold maxLen; omega, by simp, by simp⟩⟩

end Go.Proofs.YtmlbphmbffkdnaaGreat
