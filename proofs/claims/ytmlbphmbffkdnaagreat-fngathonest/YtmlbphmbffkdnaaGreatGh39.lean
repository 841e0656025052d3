/-
  Texts of the proof, what it needs of them: L20r, Lawson, Lawsfo, Forge, LawsH, Shown, Drawe, Mathe.
-/
import Derived.Laws.AppendOwnNone
import Derived.Test.YtmlbphmbffkdnaaGreatGh08
import Derived.Test.YtmlbphmbffkdnaaGreatGh18
import Derived.Test.YtmlbphmbffkdnaaGreatGh37
import Derived.Test.YtmlbphmbffkdnaaGreatGh38
namespace Go.Proofs.YtmlbphmbffkdnaaGreat
open Go.RowKit
set_option linter.unusedVariables false
set_option maxRecDepth 100000

/-- rows in memory, in no block below a base -/
def RRowA (w : World) (base : Nat) (ao : Option Addr) (rs : List Tm.Rw) : Prop := RRow w ao rs ∧ ∀ a, ao = some a → base ≤ a.block
theorem RRowA.bel {w w' : World} {base : Nat} {ao : Option Addr} {rs : List Tm.Rw} (h : RRowA w base ao rs) (hb : Below w.heap.size w w') : RRowA w' base ao rs := ⟨h.1.bel hb, h.2⟩
theorem RRowA.kg {w w' : World} {base r : Nat} {ao : Option Addr} {rs : List Tm.Rw} (h : RRowA w base ao rs) (hg : w.grownBy w' (some r)) (hr : r < base) : RRowA w' base ao rs := ⟨h.1.kpt hg (fun a ha e => by have := h.2 a ha; simp only [Option.some.injEq] at e; omega), h.2⟩
theorem RRowA.oth {w : World} {base g i : Nat} {ao : Option Addr} {rs : List Tm.Rw} (h : RRowA w base ao rs) (v : Value) (hr : g < base) : RRowA (w.setCell ⟨g, i, none⟩ v) base ao rs := h.kg (grown_cel w g i v) hr
theorem RRowA.mono {w : World} {base base' : Nat} {ao : Option Addr} {rs : List Tm.Rw} (h : RRowA w base ao rs) (hb : base' ≤ base) : RRowA w base' ao rs := ⟨h.1, fun a ha => Nat.le_trans hb (h.2 a ha)⟩
end Go.Proofs.YtmlbphmbffkdnaaGreat
namespace Go.Proofs.YtmlbphmbffkdnaaGreat
open Go.RowKit
set_option linter.unusedVariables false
set_option maxRecDepth 100000

theorem foldRows_8 {es : List Tm.Ent} (hf : foldIs es = true) : (foldRows es).length = 8 := by
  unfold foldIs at hf
  rw [Option.isSome_iff_exists] at hf
  obtain ⟨rs, hr⟩ := hf
  have h40 : es.length ≤ 40 := by
    rcases Nat.lt_or_ge 40 es.length with h2 | h2
    · rw [ownFold_long (by omega)] at hr; cases hr
    · exact h2
  rw [(fold_some hr).1]
  rw [ownFold_of h40] at hr
  exact (Tm.ownOk_iff.1 (Tm.foldE_ok es _ _ Tm.none8_ok hr)).1

end Go.Proofs.YtmlbphmbffkdnaaGreat
namespace Go.Proofs.YtmlbphmbffkdnaaGreat
open Go.RowKit
set_option linter.unusedVariables false
set_option maxRecDepth 100000

theorem ERow.take {w : World} {ao : Option Addr} {es : List Tm.Ent} (h : ERow w ao es) (k : Nat) : ERow w ao (es.take k) := by
  refine ⟨fun e he => h.1 e (List.mem_of_mem_take he), fun hne => ?_⟩
  obtain ⟨b, off, rfl, hc⟩ := h.2 (by intro e; subst e; simp at hne)
  refine ⟨b, off, rfl, fun j v hv => hc j v ?_⟩
  have := flat_part es (es.take k) 0 k (by rw [List.drop_zero]) j v hv
  simpa using this

end Go.Proofs.YtmlbphmbffkdnaaGreat
namespace Go.Proofs.YtmlbphmbffkdnaaGreat
open Go.RowKit
set_option linter.unusedVariables false

theorem own_setF {W : World} {base g n cap : Nat} {ps : List Int} (h : Own W base (.slice (some ⟨g, 0, none⟩) n cap) ps) (hn : ps.length = n) (k : Nat) (s : Int) (hs : -9223372036854775808 ≤ s ∧ s ≤ 9223372036854775807) :
    Own (W.setCell ⟨g, k, none⟩ (.int .i64 s)) base (.slice (some ⟨g, 0, none⟩) n cap) (ps.set k s) := by
  subst hn
  refine ⟨fun z hz => ?_, ?_⟩
  · rcases List.mem_or_eq_of_mem_set hz with h1 | h1
    · exact h.1 z h1
    · subst h1; exact hs
  · have := (h.2.stored k (.int .i64 s)).1
    rw [List.map_set]
    simpa using this

end Go.Proofs.YtmlbphmbffkdnaaGreat
namespace Go.Proofs.YtmlbphmbffkdnaaGreat
open Go.RowKit
set_option linter.unusedVariables false

theorem Row.lt {w : World} {ao : Option Addr} {zs : List Int} (h : Row w ao zs) (hz : zs ≠ []) : ∀ a, ao = some a → a.block < w.heap.size := by
  intro a ha
  obtain ⟨b, off, rfl, hc⟩ := h.2 hz
  cases ha
  exact World.block_lt_of_cell? w _ (hc 0 (by cases zs; exact absurd rfl hz; simp))
end Go.Proofs.YtmlbphmbffkdnaaGreat
namespace Go.Proofs.YtmlbphmbffkdnaaGreat
open Go.RowKit
set_option linter.unusedVariables false

theorem grown_of_belowR {w w' : World} {row : Option Nat} (h : Below w.heap.size w w') : w.grownBy w' row := ⟨h.os, h.tape, h.output, h.size, fun k hk _ => h.block k hk⟩
theorem grown_refl (w : World) (row : Option Nat) : w.grownBy w row := ⟨rfl, rfl, rfl, Nat.le_refl _, fun _ _ _ => rfl⟩
theorem Own.rowOf {w : World} {base n cap : Nat} {ao : Option Addr} {zs : List Int} (h : Own w base (.slice ao n cap) zs) : Row w ao zs := by
  obtain ⟨ao', cap', e, -, hr, -⟩ := h.row
  cases e
  exact hr

/-- Where a draw of a list and of a proof stands: both are the draw's own, the reader is so far on, and nothing older is written. -/
def St (w0 W : World) (r k : Nat) (v : Value) (zs : List Int) (pv : Value) (ps : List Int) : Prop :=
  r < w0.heap.size ∧ Own W w0.heap.size v zs ∧ Own W w0.heap.size pv ps ∧ Rd W r k ∧ w0.grownBy W (some r)
theorem St.step {w0 W W' : World} {r k k' : Nat} {v pv : Value} {zs ps : List Int} (h : St w0 W r k v zs pv ps) (hg : W.grownBy W' (some r)) (hr : Rd W' r k') : St w0 W' r k' v zs pv ps :=
  ⟨h.1, h.2.1.keptR hg h.1, h.2.2.1.keptR hg h.1, hr, grown_trans h.2.2.2.2 hg⟩
theorem St.mono {w0 W : World} {r k k' : Nat} {v pv : Value} {zs ps : List Int} (h : St w0 W r k v zs pv ps) (hk : k ≤ k') : St w0 W r k' v zs pv ps :=
  ⟨h.1, h.2.1, h.2.2.1, h.2.2.2.1.mono hk, h.2.2.2.2⟩
/-- another proof in the place of the one that was there -/
theorem St.other {w0 W W' : World} {r k : Nat} {v pv pv' : Value} {zs ps ps' : List Int} (h : St w0 W r k v zs pv ps) (hb : Below W.heap.size W W') (ho : Own W' W.heap.size pv' ps') : St w0 W' r k v zs pv' ps' :=
  ⟨h.1, h.2.1.keptR (grown_of_belowR hb) h.1, ho.mono h.2.2.2.2.size, h.2.2.2.1.kept (row := none) (grown_of_below hb) (fun b e => by cases e), grown_trans h.2.2.2.2 (grown_of_belowR hb)⟩
theorem St.size {w0 W : World} {r k : Nat} {v pv : Value} {zs ps : List Int} (h : St w0 W r k v zs pv ps) : w0.heap.size ≤ W.heap.size := h.2.2.2.2.size

end Go.Proofs.YtmlbphmbffkdnaaGreat
namespace Go.Proofs.YtmlbphmbffkdnaaGreat
open Go.RowKit
set_option linter.unusedVariables false

theorem St.drewN {w0 W : World} {r k : Nat} {v pv : Value} {zs ps : List Int} (h : St w0 W r k v zs pv ps) (q : Nat) : St w0 (W.drewN q) r k v zs pv ps :=
  h.step (grown_drewN (grown_refl _ _) q) (h.2.2.2.1.drewN q)

end Go.Proofs.YtmlbphmbffkdnaaGreat
namespace Go.Proofs.YtmlbphmbffkdnaaGreat.Tm

def clash : Nat → List Int → Int → Int → List Int → List Int
  | 0, _, _, _, _ => []
  | f + 1, l, i, leaf, ps =>
    if i < split l.length then
      if (up (split l.length) i leaf (ps.take (ps.length - 1))).getD 0 = root (l.take (sp l)) ∧ ps.getD (ps.length - 1) 0 = root (l.drop (sp l)) then clash f (l.take (sp l)) i leaf (ps.take (ps.length - 1))
      else [(up (split l.length) i leaf (ps.take (ps.length - 1))).getD 0, ps.getD (ps.length - 1) 0, root (l.take (sp l)), root (l.drop (sp l))]
    else
      if ps.getD (ps.length - 1) 0 = root (l.take (sp l)) ∧ (up (l.length - split l.length) (i - split l.length) leaf (ps.take (ps.length - 1))).getD 0 = root (l.drop (sp l)) then clash f (l.drop (sp l)) (i - split l.length) leaf (ps.take (ps.length - 1))
      else [ps.getD (ps.length - 1) 0, (up (l.length - split l.length) (i - split l.length) leaf (ps.take (ps.length - 1))).getD 0, root (l.take (sp l)), root (l.drop (sp l))]

structure Inv (l : List Int) (i leaf : Int) (ps : List Int) : Prop where
  ok : okAll l = true
  len : l.length ≤ 40
  i0 : 0 ≤ i
  i1 : i < l.length
  lf : okB leaf = true
  po : okAll ps = true
  pl : ps.length ≤ 40
  up : Tm.up l.length i leaf ps = some (root l)
  ne : leaf ≠ l.getD i.toNat 0

theorem Inv.two {l : List Int} {i leaf : Int} {ps : List Int} (h : Inv l i leaf ps) : 2 ≤ l.length := by
  rcases Nat.lt_or_ge l.length 2 with h2 | h2
  · exfalso
    have h1 := h.i1
    have h0 := h.i0
    have e1 : l.length = 1 := by omega
    have hu := h.up
    rw [e1, root_one e1] at hu
    have hi : i.toNat = 0 := by omega
    have hne := h.ne
    rw [hi] at hne
    by_cases hp : ps = []
    · subst hp
      rw [show ((1 : Nat) : Int) = 1 from rfl, up_nil_one (by omega)] at hu
      cases hu
      exact hne rfl
    · obtain ⟨k, hk⟩ : ∃ k, ps.length = k + 1 := ⟨ps.length - 1, by cases ps; exact absurd rfl hp; simp⟩
      rw [snoc_of hk, show ((1 : Nat) : Int) = 1 from rfl, up_cons_one (by omega)] at hu
      cases hu
  · exact h2

theorem Inv.some {l : List Int} {i leaf : Int} {ps : List Int} (h : Inv l i leaf ps) : ∃ k, ps.length = k + 1 := by
  have h2 := h.two
  by_cases hp : ps = []
  · subst hp
    have hu := h.up
    rw [up_nil_more (by omega)] at hu
    cases hu
  · exact ⟨ps.length - 1, by cases ps; exact absurd rfl hp; simp⟩

theorem getD_tk {l : List Int} {k j : Nat} (h : j < k) : (l.take k).getD j 0 = l.getD j 0 := by simp [List.getD, h]
theorem getD_dp {l : List Int} {k j : Nat} : (l.drop k).getD j 0 = l.getD (k + j) 0 := by simp [List.getD]

theorem Inv.left {l : List Int} {i leaf : Int} {ps : List Int} {k : Nat} (h : Inv l i leaf ps) (hk : ps.length = k + 1) (hi : i < split l.length) :
    ∃ x, Tm.up (split l.length) i leaf (ps.take k) = Option.some x ∧ okB x = true ∧ pair x (ps.getD k 0) = pair (root (l.take (sp l))) (root (l.drop (sp l))) ∧ (x = root (l.take (sp l)) → Inv (l.take (sp l)) i leaf (ps.take k)) := by
  have h2 := h.two
  have hs := sp_bd h2 h.len
  have hsi := sp_int h2 h.len
  have hu := h.up
  rw [snoc_of hk, up_left (by omega) hi, Option.map_eq_some_iff] at hu
  obtain ⟨z, hz, he⟩ := hu
  rw [root_more h2 h.len] at he
  obtain ⟨s1, s2, s3⟩ := hs
  have htl : (l.take (sp l)).length = sp l := by rw [List.length_take]; omega
  have hl := h.len
  refine ⟨z, hz, up_ok h.lf _ _ _ _ hz, he, fun hx => ⟨okAll_take h.ok _, by omega, h.i0, by rw [htl]; omega, h.lf, okAll_take h.po _, by rw [List.length_take]; have := h.pl; omega, ?_, ?_⟩⟩
  · rw [htl, ← hsi, hz, hx]
  · rw [getD_tk (by have := h.i0; omega)]; exact h.ne

theorem Inv.right {l : List Int} {i leaf : Int} {ps : List Int} {k : Nat} (h : Inv l i leaf ps) (hk : ps.length = k + 1) (hi : ¬ i < split l.length) :
    ∃ x, Tm.up (l.length - split l.length) (i - split l.length) leaf (ps.take k) = Option.some x ∧ okB x = true ∧ pair (ps.getD k 0) x = pair (root (l.take (sp l))) (root (l.drop (sp l))) ∧ (x = root (l.drop (sp l)) → Inv (l.drop (sp l)) (i - split l.length) leaf (ps.take k)) := by
  have h2 := h.two
  have hs := sp_bd h2 h.len
  have hsi := sp_int h2 h.len
  have hu := h.up
  rw [snoc_of hk, up_right (by omega) hi, Option.map_eq_some_iff] at hu
  obtain ⟨z, hz, he⟩ := hu
  rw [root_more h2 h.len] at he
  obtain ⟨s1, s2, s3⟩ := hs
  have htl : (l.drop (sp l)).length = l.length - sp l := by rw [List.length_drop]
  have hl := h.len
  have hi1 := h.i1
  have hi0 := h.i0
  refine ⟨z, hz, up_ok h.lf _ _ _ _ hz, he, fun hx => ⟨okAll_drop h.ok _, by omega, by omega, by rw [htl]; omega, h.lf, okAll_take h.po _, by rw [List.length_take]; have := h.pl; omega, ?_, ?_⟩⟩
  · rw [htl, show ((l.length - sp l : Nat) : Int) = l.length - split l.length by omega, hz, hx]
  · rw [getD_dp, show sp l + (i - split l.length).toNat = i.toNat by omega]; exact h.ne

/-- What is found is four numbers, mixed ones; the two pairs differ, and mix to the same. -/
theorem clash_is (f : Nat) : ∀ (l : List Int) (i leaf : Int) (ps : List Int), l.length ≤ f → Inv l i leaf ps →
    ∃ a b c d, clash f l i leaf ps = [a, b, c, d] ∧ ¬ (a = c ∧ b = d) ∧ pair a b = pair c d ∧ okB a = true ∧ okB b = true ∧ okB c = true ∧ okB d = true := by
  induction f with
  | zero => intro l i leaf ps hf h; have := h.two; omega
  | succ f ih =>
    intro l i leaf ps hf h
    obtain ⟨k, hk⟩ := h.some
    have hk1 : ps.length - 1 = k := by omega
    have h2 := h.two
    obtain ⟨s1, s2, s3⟩ := sp_bd h2 h.len
    have hsi := sp_int h2 h.len
    have hpo := okAll_at h.po (k := k) (by omega)
    have hrt := root_ok _ (l.take (sp l)) (Nat.le_refl _) (by rw [List.length_take]; have := h.len; omega) (okAll_take h.ok (sp l))
    have hrd := root_ok _ (l.drop (sp l)) (Nat.le_refl _) (by rw [List.length_drop]; have := h.len; omega) (okAll_drop h.ok (sp l))
    rw [clash, hk1]
    by_cases hi : i < split l.length
    · obtain ⟨x, hx, hxo, hp, hn⟩ := h.left hk hi
      rw [if_pos hi, hx]
      simp only [Option.getD_some]
      split
      · rename_i hc
        exact ih _ _ _ _ (by rw [List.length_take]; omega) (hn hc.1)
      · rename_i hc
        exact ⟨_, _, _, _, rfl, hc, hp, hxo, hpo, hrt, hrd⟩
    · obtain ⟨x, hx, hxo, hp, hn⟩ := h.right hk hi
      rw [if_neg hi, hx]
      simp only [Option.getD_some]
      split
      · rename_i hc
        exact ih _ _ _ _ (by rw [List.length_drop]; omega) (hn hc.2)
      · rename_i hc
        exact ⟨_, _, _, _, rfl, hc, hp, hpo, hxo, hrt, hrd⟩

/-- TreClash's answer -/
def treClash (l : List Int) (i leaf : Int) (ps : List Int) : List Int :=
  if treOk l = true ∧ treCheck (treRoot l) l.length i leaf ps = true ∧ leaf ≠ l.getD i.toNat 0 then clash l.length l i leaf ps else []

theorem upc {n i leaf y : Int} {ps : List Int} (h : treUp n i leaf ps = some y) : (1 ≤ n ∧ n ≤ 40 ∧ 0 ≤ i ∧ i < n ∧ okB leaf = true ∧ treOk ps = true) ∧ Tm.up n i leaf ps = some y := by
  by_cases hc : 1 ≤ n ∧ n ≤ 40 ∧ 0 ≤ i ∧ i < n ∧ okB leaf = true ∧ treOk ps = true
  · rw [treUp_of hc] at h
    exact ⟨hc, h⟩
  · rw [treUp_no hc] at h; cases h

theorem inv_of {l : List Int} {i leaf : Int} {ps : List Int} (h1 : treOk l = true) (h2 : treCheck (treRoot l) l.length i leaf ps = true) (h3 : leaf ≠ l.getD i.toNat 0) : Inv l i leaf ps := by
  obtain ⟨t1, t2⟩ := treOk_len h1
  unfold treCheck at h2
  rcases hu : treUp l.length i leaf ps with _ | y
  · rw [hu] at h2; simp at h2
  · rw [hu] at h2
    simp at h2
    obtain ⟨⟨c1, c2, c3, c4, c5, c6⟩, hu'⟩ := upc hu
    obtain ⟨t3, t4⟩ := treOk_len c6
    have hr : treRoot l = root l := by unfold treRoot; rw [h1]; rfl
    exact ⟨t2, t1, c3, c4, c5, t4, t3, by rw [hu', h2, hr], h3⟩
end Go.Proofs.YtmlbphmbffkdnaaGreat.Tm
