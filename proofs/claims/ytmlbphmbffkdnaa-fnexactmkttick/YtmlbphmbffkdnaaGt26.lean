/-
  Texts of the proof, what it needs of them: Loga.
-/
import Derived.Test.YtmlbphmbffkdnaaGt23
import Derived.Test.YtmlbphmbffkdnaaGt25
namespace Go.Proofs.Ytmlbphmbffkdnaa
open Go.RowKit
set_option linter.unusedVariables false
set_option maxRecDepth 100000

theorem bel_grown {W W' : World} (hb : Below W.heap.size W W') (row : Option Nat) : W.grownBy W' row := ⟨hb.os, hb.tape, hb.output, hb.size, fun k hk _ => hb.block k hk⟩
/-- two lists that do not lie in one block -/
def Dis (v rv : Value) : Prop := ∀ b, v.ownBlock = some b → rv.ownBlock ≠ some b
theorem EOwn.kptG {w w' : World} {base : Nat} {v : Value} {es : List Tm.Ent} {row : Option Nat} (h : EOwn w base v es) (hg : w.grownBy w' row) (hne : ∀ b, v.ownBlock = some b → some b ≠ row) : EOwn w' base v es := ⟨h.1, ownsK h.2 hg hne⟩
theorem ROwn.kptG {w w' : World} {base : Nat} {v : Value} {rs : List Tm.Rw} {row : Option Nat} (h : ROwn w base v rs) (hg : w.grownBy w' row) (hne : ∀ b, v.ownBlock = some b → some b ≠ row) : ROwn w' base v rs := by
  obtain ⟨f, t, h0⟩ := h
  exact ⟨f, t, ownsK h0 hg hne⟩
theorem EOwn.blk {w : World} {base : Nat} {v : Value} {es : List Tm.Ent} (h : EOwn w base v es) : ∀ b, v.ownBlock = some b → base ≤ b ∧ b < w.heap.size := fun b hb => h.2.lt b hb
theorem ROwn.blk {w : World} {base : Nat} {v : Value} {rs : List Tm.Rw} (h : ROwn w base v rs) : ∀ b, v.ownBlock = some b → base ≤ b ∧ b < w.heap.size := by
  obtain ⟨f, t, h0⟩ := h
  exact fun b hb => h0.lt b hb
/-- while entries are drawn: the reader, the entries so far, how the tickets stand behind them -/
def LogS (w W : World) (r k : Nat) (v rv : Value) (es : List Tm.Ent) (rs : List Tm.Rw) : Prop :=
  Rd W r k ∧ w.grownBy W (some r) ∧ EOwn W w.heap.size v es ∧ ROwn W w.heap.size rv rs ∧ rs.length = 8 ∧ Dis v rv
theorem LogS.grow {w W W' : World} {r k k' : Nat} {v rv : Value} {es : List Tm.Ent} {rs : List Tm.Rw} {row : Option Nat} (h : LogS w W r k v rv es rs) (hg : W.grownBy W' row) (hr : Rd W' r k') (hgw : w.grownBy W' (some r))
    (h1 : ∀ b, v.ownBlock = some b → some b ≠ row) (h2 : ∀ b, rv.ownBlock = some b → some b ≠ row) : LogS w W' r k' v rv es rs :=
  ⟨hr, hgw, h.2.2.1.kptG hg h1, h.2.2.2.1.kptG hg h2, h.2.2.2.2.1, h.2.2.2.2.2⟩
theorem LogS.step {w W W' : World} {r k k' : Nat} {v rv : Value} {es : List Tm.Ent} {rs : List Tm.Rw} (h : LogS w W r k v rv es rs) (hr : Rd W' r k') (hg : W.grownBy W' (some r)) (hrl : r < w.heap.size) : LogS w W' r k' v rv es rs :=
  h.grow hg hr (grown_trans h.2.1 hg) (fun b hb e => by have := (h.2.2.1.blk b hb).1; cases e; omega) (fun b hb e => by have := (h.2.2.2.1.blk b hb).1; cases e; omega)
theorem LogS.below {w W W' : World} {r k : Nat} {v rv : Value} {es : List Tm.Ent} {rs : List Tm.Rw} (h : LogS w W r k v rv es rs) (hb : Below W.heap.size W W') : LogS w W' r k v rv es rs :=
  h.grow (bel_grown hb none) (h.1.kept (bel_grown hb none) (fun b hb => by cases hb)) (grown_trans h.2.1 (bel_grown hb _)) (fun b hb e => by cases e) (fun b hb e => by cases e)
theorem LogS.alloc {w W : World} {r k : Nat} {v rv : Value} {es : List Tm.Ent} {rs : List Tm.Rw} (h : LogS w W r k v rv es rs) (o : Obj) : LogS w (W.alloc o) r k v rv es rs := h.below ((Below.refl _ _).alloc (Nat.le_refl _) o)
theorem LogS.mono {w W : World} {r k k' : Nat} {v rv : Value} {es : List Tm.Ent} {rs : List Tm.Rw} (h : LogS w W r k v rv es rs) (hk : k ≤ k') : LogS w W r k' v rv es rs := ⟨h.1.mono hk, h.2⟩
theorem LogS.put {w W W' : World} {r k g : Nat} {v rv : Value} {es : List Tm.Ent} {rs : List Tm.Rw} (h : LogS w W r k v rv es rs) (hg : W.grownBy W' (some g)) (hrl : r < w.heap.size) (h0 : w.heap.size ≤ g) (h1 : v.ownBlock ≠ some g) (h2 : rv.ownBlock ≠ some g) : LogS w W' r k v rv es rs :=
  h.grow hg (h.1.kept hg (fun b hb => by cases hb; omega)) (grown_new h.2.1 hg h0) (fun b hb e => h1 (by rw [hb, e])) (fun b hb e => h2 (by rw [hb, e]))
theorem LogS.rows {w W : World} {r k : Nat} {v rv : Value} {es : List Tm.Ent} {rs : List Tm.Rw} (h : LogS w W r k v rv es rs) :
    ∃ b off cap, rv = .slice (some ⟨b, off, none⟩) 8 cap ∧ 8 ≤ cap ∧ RRow W (some ⟨b, off, none⟩) rs := by
  obtain ⟨-, -, -, hR, h8, -⟩ := h
  obtain ⟨ao, cap, rfl, hc, hr, -⟩ := hR.row
  obtain ⟨b, off, rfl, -⟩ := hr.2 (by intro e; subst e; simp at h8)
  rw [h8] at hc ⊢
  exact ⟨b, off, cap, rfl, hc, hr⟩
theorem LogS.out {w W : World} {r k : Nat} {v rv : Value} {es : List Tm.Ent} {rs : List Tm.Rw} (h : LogS w W r k v rv es rs) : ∃ ao cap, v = .slice ao es.length cap ∧ es.length ≤ cap := by
  obtain ⟨ao, cap, h1, h2, -, -⟩ := h.2.2.1.row
  exact ⟨ao, cap, h1, h2⟩
/-- the entry that is drawn, in its block -/
def EntB (w W : World) (v rv : Value) (g : Nat) (a t u p : Int) : Prop :=
  Box W g [.int .i64 a, .int .i64 t, .int .i64 u, .int .i64 p] ∧ w.heap.size ≤ g ∧ v.ownBlock ≠ some g ∧ rv.ownBlock ≠ some g ∧ FitsE a t u p
theorem EntB.step {w W W' : World} {v rv : Value} {g : Nat} {a t u p : Int} {r : Nat} (h : EntB w W v rv g a t u p) (hg : W.grownBy W' (some r)) (hrl : r < w.heap.size) : EntB w W' v rv g a t u p :=
  ⟨h.1.kpt hg (fun e => by have := h.2.1; cases e; omega), h.2⟩
theorem EntB.below {w W W' : World} {v rv : Value} {g : Nat} {a t u p : Int} (h : EntB w W v rv g a t u p) (hb : Below W.heap.size W W') : EntB w W' v rv g a t u p := ⟨h.1.below hb, h.2⟩
section
variable {P : Program} (w : World)
end
/-- an entry more -/
theorem LogS.more {w W W' : World} {o : Obj} {r k g cap : Nat} {v rv : Value} {es : List Tm.Ent} {rs : List Tm.Rw} {x : Tm.Ent} (h : LogS w W r k v rv es rs) (hrl : r < w.heap.size) (hx : FitE x)
    (hown : W'.ownsRow w.heap.size 134 4 (.slice (some ⟨g, 0, none⟩) (es.length + 1) cap) (es.length + 1) (es.flatMap eCells ++ eCells x)) (hg : (W.alloc o).grownBy W' v.ownBlock) (hl : v.ownBlock = some g ∨ g = W.heap.size + 1) :
    LogS w W' r k (.slice (some ⟨g, 0, none⟩) (es.length + 1) cap) rv (es ++ [x]) rs := by
  have h2 := h.alloc o
  have hb : ∀ b, v.ownBlock = some b → w.heap.size ≤ b := fun b hb => (h.2.2.1.blk b hb).1
  refine ⟨h2.1.kept hg (fun b e => by have := hb b e; omega), ?_, ⟨?_, ?_⟩, h2.2.2.2.1.kptG hg (fun b e1 e2 => h.2.2.2.2.2 b e2.symm e1), h.2.2.2.2.1, ?_⟩
  · exact ⟨hg.os.trans h2.2.1.os, hg.tape.trans h2.2.1.tape, hg.output.trans h2.2.1.output, Nat.le_trans h2.2.1.size hg.size, fun i hi hr => (hg.block i (Nat.lt_of_lt_of_le hi h2.2.1.size) (fun e => by have := hb i e.symm; omega)).trans (h2.2.1.block i hi hr)⟩
  · intro e he
    rcases List.mem_append.1 he with h3 | h3
    · exact h.2.2.1.1 e h3
    · rw [List.mem_singleton.1 h3]; exact hx
  · rw [List.length_append, List.flatMap_append, List.flatMap_singleton]; exact hown
  · intro b e1 e2
    have e1' : g = b := by simpa [Value.ownBlock] using e1
    subst e1'
    rcases hl with h3 | h3
    · exact h.2.2.2.2.2 g h3 e2
    · have := (h.2.2.2.1.blk g e2).2; omega
/-- what a draw of entries leaves -/
def LogD (w : World) (r k : Nat) (e : Ending) (w' : World) : Prop :=
  ∃ (v : Value) (es : List Tm.Ent), e = .returned v ∧ es.length ≤ 41 ∧ EOwn w' w.heap.size v es ∧ Rd w' r k ∧ w.grownBy w' (some r)
theorem flat_part (es ys : List Tm.Ent) (i m : Nat) (hy : (es.drop i).take m = ys) : ∀ j u, (ys.flatMap eCells)[j]? = some u → (es.flatMap eCells)[i * 4 + j]? = some u := by
  intro j u hu
  have hlen : j < (ys.flatMap eCells).length := lt_of_get hu
  have hi : i ≤ es.length := by
    rcases Nat.lt_or_ge es.length i with h | h
    · rw [List.drop_eq_nil_of_le (by omega)] at hy; simp at hy; subst hy; simp at hlen
    · exact h
  have e : es = es.take i ++ (ys ++ (es.drop i).drop m) := by rw [← hy, List.take_append_drop, List.take_append_drop]
  have hl : ((es.take i).flatMap eCells).length = i * 4 := by rw [flat_len eCells 4 eCells_len, List.length_take, Nat.min_eq_left hi]
  have key : ∀ zs, zs = es.take i ++ (ys ++ (es.drop i).drop m) → (zs.flatMap eCells)[i * 4 + j]? = some u := by
    intro zs hz
    rw [hz, List.flatMap_append, List.flatMap_append, List.getElem?_append_right (by rw [hl]; omega), hl, show i * 4 + j - i * 4 = j by omega, List.getElem?_append_left hlen]
    exact hu
  exact key es e
theorem LogS.news {w W : World} {r k g n cap : Nat} {rv : Value} {es : List Tm.Ent} {rs : List Tm.Rw} (h : LogS w W r k (.slice (some ⟨g, 0, none⟩) n cap) rv es rs) (i m : Nat) (ys : List Tm.Ent) (hy : (es.drop i).take m = ys) :
    ∀ j u, (ys.flatMap eCells)[j]? = some u → W.cell? ((⟨g, i * 4, none⟩ : Addr).add j) = some u := by
  intro j u hu
  have h1 := flat_part es ys i m hy j u hu
  obtain ⟨ao, cap', he, -, hr, -⟩ := h.2.2.1.row
  cases he
  obtain ⟨b', off', he, hc⟩ := hr.2 (by intro e; subst e; simp at h1)
  cases he
  have hadd : (⟨g, i * 4, none⟩ : Addr).add j = ⟨g, 0 + (i * 4 + j), none⟩ := by unfold Addr.add; split <;> simp_all
  rw [hadd]
  exact hc _ _ h1
theorem LogD.mono {w W : World} {r k k' : Nat} {e : Ending} (h : LogD w r k e W) (hk : k ≤ k') : LogD w r k' e W := by
  obtain ⟨v, es, h1, h2, h3, h4, h5⟩ := h
  exact ⟨v, es, h1, h2, h3, h4.mono hk, h5⟩
section
variable {P : Program} (w : World)
end
end Go.Proofs.Ytmlbphmbffkdnaa
