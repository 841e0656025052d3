/-
  Texts of the proof, what it needs of them: Mona.
-/
import Derived.Laws.AppendOwnNone
import Derived.Test.YtmlbphmbffkdnaaGreatGh09
namespace Go.Proofs.YtmlbphmbffkdnaaGreat
open Go.RowKit
set_option linter.unusedVariables false
set_option maxRecDepth 100000

set_option maxHeartbeats 400000 in
theorem c83 (n a b : Int) (w : World) : Calls Tryz.prog 83 #[.int .i64 n, .int .i64 a, .int .i64 b] w fun e w' => e = .returned (.bool (decide (a ≤ n ∧ n ≤ b))) ∧ w' = w := by
  by_cases h0 : a ≤ n
  · go_enter Tryz.func83, Tryz.ntmps83
    go_wp2
    go_ret
    exact ⟨ret_bool (by simp [h0]), rfl⟩
  · have h1 : decide (a ≤ n) = false := by simpa using h0
    go_enter Tryz.func83, Tryz.ntmps83
    go_wp2
    go_ret
    exact ⟨ret_bool (by simp), rfl⟩

end Go.Proofs.YtmlbphmbffkdnaaGreat
namespace Go.Proofs.YtmlbphmbffkdnaaGreat
open Go.RowKit
set_option linter.unusedVariables false
set_option maxRecDepth 100000

theorem row_none {w : World} {p : List Int} (h : Row w none p) : p = [] := by
  by_cases e : p = []
  · exact e
  · obtain ⟨b, off, h2, -⟩ := h.2 e; cases h2
theorem row_src {w : World} {a : Addr} {p : List Int} (h : Row w (some a) p) : ∀ (j : Nat) (u : Value), (p.map (Value.int .i64))[j]? = some u → w.cell? (a.add j) = some u := by
  intro j u hj
  rw [List.getElem?_map] at hj
  have hjl : j < p.length := by
    rcases Nat.lt_or_ge j p.length with h | h
    · exact h
    · rw [List.getElem?_eq_none h] at hj; cases hj
  obtain ⟨b, off, e, hc⟩ := h.2 (by intro e; subst e; simp at hjl)
  cases e
  have h1 := hc j hjl
  rw [List.getElem?_eq_getElem hjl] at hj
  cases hj
  have e : (Addr.add ⟨b, off, none⟩ j) = ⟨b, off + j, none⟩ := by unfold Addr.add; split <;> simp_all
  rw [e, h1, Tm.getD_eq hjl]
theorem own_new {w w2 : World} {p : List Int} {v : Value} {n : Nat} (hf : Fits p) (h : w2.ownsRow w.heap.size 3 1 v (0 + p.length) ([] ++ p.map (Value.int .i64))) : Own w2 w.heap.size v p := ⟨hf, by simpa using h⟩
theorem own_cap0 {w : World} {base n cap : Nat} {zs : List Int} (h : Own w base (.slice none n cap) zs) : cap = 0 := by
  rcases h.2.2 with ⟨hv, hz⟩ | ⟨g', cap', cur, hv, rr⟩
  · cases hv; rfl
  · cases hv
theorem grown_rf (w : World) (row : Option Nat) : w.grownBy w row := ⟨rfl, rfl, rfl, Nat.le_refl _, fun _ _ _ => rfl⟩
theorem grown_tr {a b c : World} {row : Option Nat} (h1 : a.grownBy b row) (h2 : b.grownBy c row) : a.grownBy c row :=
  ⟨h2.os.trans h1.os, h2.tape.trans h1.tape, h2.output.trans h1.output, Nat.le_trans h1.size h2.size, fun k hk hr => (h2.block k (Nat.lt_of_lt_of_le hk h1.size) hr).trans (h1.block k hk hr)⟩
theorem below_grown0 {a b : World} (h : Below a.heap.size a b) (row : Option Nat) : a.grownBy b row := ⟨h.os, h.tape, h.output, h.size, fun k hk _ => h.block k hk⟩
set_option maxHeartbeats 1000000 in
theorem c76 (p : List Int) (ao : Option Addr) (n cap : Nat) (w : World) (hn : p.length = n) (hm : n ≤ 1048576) (hz : ao = none → cap = 0) (hr : Row w ao p) :
    Calls Tryz.prog 76 #[.slice ao n cap] w (Told w p) := by
  subst hn
  obtain ⟨i0, hi, hz0, hz1, hz2⟩ := info_parts Tryz.info3
  have HF := hide hr.1
  have HO := hide (owns_nil w w.heap.size 1 3 (Nat.le_refl _))
  cases ao with
  | none =>
    have h0 : p = [] := row_none hr
    subst h0
    have hc0 := hz rfl
    subst hc0
    clear hr hz
    go_enter Tryz.func76, Tryz.ntmps76
    go_wp2_with (first | (at_builtin; refine wpList_append_own_none rfl _ _ 25 rfl w.heap.size 3 i0 1 Tryz.underlying25 hi _ 0 [] rfl (unhide HO) rfl ?_) | fail)
    go_wp2_with fail
    go_ret
    exact ⟨_, rfl, ⟨unhide HF, unhide HO⟩, Below.refl _ _⟩
  | some a =>
    have HC := hide (row_src hr)
    clear hr hz
    go_enter Tryz.func76, Tryz.ntmps76
    go_wp2_with (first | (at_builtin; refine wpList_append_own _ rfl _ _ 25 rfl w.heap.size 3 i0 (.int .i64 0) 1 8 Tryz.underlying25 hi hz0 hz1 hz2 rfl (by decide) _ _ _ rfl (unhide HO) a p.length cap (p.map (Value.int .i64)) rfl (by simp) (unhide HC) (ints_oneCell _ _) (by simp [maxLen]; omega) (by simp; omega) (Nat.le_refl _) ?_; intro v' w2 hown' hgrow _) | fail)
    have HW := hide (own_new (n := 0) (unhide HF) hown')
    have hgrow : w.grownBy w2 none := hgrow
    have HG := hide ((Below.refl w.heap.size w).grown hgrow (Nat.le_refl _) (fun q hq => by cases hq))
    clear hown' hgrow
    go_wp2_with fail
    go_ret
    exact ⟨_, rfl, unhide HW, unhide HG⟩

theorem own_ne {w : World} {base n cap : Nat} {ao : Option Addr} {p : List Int} (h : Own w base (.slice ao n cap) p) (hp : p ≠ []) : ∃ g, ao = some ⟨g, 0, none⟩ := by
  rcases h.2.2 with ⟨hv, hz⟩ | ⟨g', cap', cur, hv, rr⟩
  · exact absurd (List.eq_nil_of_length_eq_zero hz) hp
  · cases hv; exact ⟨g', rfl⟩
theorem own_cell {w : World} {base g n cap : Nat} {p : List Int} (h : Own w base (.slice (some ⟨g, 0, none⟩) n cap) p) (hn : p.length = n) {j : Nat} (hj : j < p.length) :
    w.cell? ⟨g, j, none⟩ = some (.int .i64 (p.getD j 0)) ∧ w.frozen? ⟨g, j, none⟩ = false := by
  subst hn
  refine ⟨?_, h.2.frozenAt j⟩
  rw [h.2.cellAt j (by omega)]
  simp [List.getD, List.getElem?_eq_getElem hj]

end Go.Proofs.YtmlbphmbffkdnaaGreat
namespace Go.Proofs.YtmlbphmbffkdnaaGreat
open Go.RowKit
set_option linter.unusedVariables false
set_option maxRecDepth 100000

end Go.Proofs.YtmlbphmbffkdnaaGreat
