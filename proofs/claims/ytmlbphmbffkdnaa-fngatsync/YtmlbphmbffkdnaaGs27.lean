/-
  Texts of the proof, what it needs of them: Growd.
-/
import Derived.Test.YtmlbphmbffkdnaaGs09
import Derived.Test.YtmlbphmbffkdnaaGs23
import Derived.Test.YtmlbphmbffkdnaaGs26
namespace Go.Proofs.Ytmlbphmbffkdnaa
open Go.RowKit
set_option linter.unusedVariables false

theorem told_nil' {w W : World} (hb : Below w.heap.size w W) : Told w [] (.returned (.slice none 0 0)) W :=
  ⟨_, rfl, ⟨fun z hz => by simp at hz, ⟨rfl, Or.inl ⟨rfl, rfl⟩⟩⟩, hb⟩
theorem news_one {w : World} {g : Nat} {x : Int} (h : w.cell? ⟨g, 0, none⟩ = some (.int .i64 x)) : ∀ j u, [Value.int .i64 x][j]? = some u → w.cell? ((⟨g, 0, none⟩ : Addr).add j) = some u := by
  intro j u hu
  cases j with
  | zero =>
    simp at hu
    subst hu
    have e : (⟨g, 0, none⟩ : Addr).add 0 = ⟨g, 0, none⟩ := by unfold Addr.add; split <;> simp_all
    rw [e]; exact h
  | succ j => simp at hu
theorem own_fin2g {w w1 w2 : World} {v : Value} {zs : List Int} {x : Int} {g cap : Nat} (h0 : Below w.heap.size w w1) (ho : Own w1 w.heap.size v zs) (hx : -9223372036854775808 ≤ x ∧ x ≤ 9223372036854775807)
    (hown : w2.ownsRow w.heap.size 3 1 (.slice (some ⟨g, 0, none⟩) (zs.length + 1) cap) (zs.length + 1) (zs.map (Value.int .i64) ++ [.int .i64 x])) (hg : w1.grownBy w2 v.ownBlock) :
    Own w2 w.heap.size (.slice (some ⟨g, 0, none⟩) (zs.length + 1) cap) (zs ++ [x]) ∧ Below w.heap.size w w2 :=
  ⟨own_snoc ho.1 hx hown, h0.grown hg h0.size (fun k hk => own_block ho k hk)⟩

/-- One step down, whichever side it goes to. -/
theorem Tm.con_step {l : List Int} {m : Nat} (h1 : 1 ≤ m) (h2 : m < l.length) (h3 : l.length ≤ 40) : ∃ (c a : Nat) (lb : Bool) (part other : List Int), stepOf l.length ((m : Int) - 1) = .agg #[.int .i64 (c : Int), .int .i64 (a : Int), .bool lb] ∧ a + 1 ≤ c ∧ c < l.length ∧
    part = (if lb = true then l.take (Tm.sp l) else l.drop (Tm.sp l)) ∧ other = (if lb = true then l.drop (Tm.sp l) else l.take (Tm.sp l)) ∧ part.length = c ∧ ∀ al : Bool, Tm.con l m al = Tm.con part (a + 1) (al && lb) ++ [Tm.root other] := by
  have hs := Tm.sp_bd (l := l) (by omega) h3
  have hsi := Tm.sp_int (l := l) (by omega) h3
  by_cases hi : m ≤ Tm.sp l
  · refine ⟨Tm.sp l, m - 1, true, l.take (Tm.sp l), l.drop (Tm.sp l), ?_, by omega, by omega, rfl, rfl, by rw [List.length_take]; omega, fun al => ?_⟩
    · unfold stepOf; rw [if_pos (by omega), hsi]; rw [show ((m - 1 : Nat) : Int) = (m : Int) - 1 by omega]
    · rw [Tm.con_left h1 h2 h3 hi, show m - 1 + 1 = m by omega, Bool.and_true]
  · refine ⟨l.length - Tm.sp l, m - 1 - Tm.sp l, false, l.drop (Tm.sp l), l.take (Tm.sp l), ?_, by omega, by omega, rfl, rfl, by rw [List.length_drop], fun al => ?_⟩
    · unfold stepOf; rw [if_neg (by omega), hsi]; rw [show ((l.length - Tm.sp l : Nat) : Int) = (l.length : Int) - (Tm.sp l : Int) by omega, show ((m - 1 - Tm.sp l : Nat) : Int) = (m : Int) - 1 - (Tm.sp l : Int) by omega]
    · rw [Tm.con_right h1 h2 h3 hi, show m - 1 - Tm.sp l + 1 = m - Tm.sp l by omega, Bool.and_false]

end Go.Proofs.Ytmlbphmbffkdnaa
