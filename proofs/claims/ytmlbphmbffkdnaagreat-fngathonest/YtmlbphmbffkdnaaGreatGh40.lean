/-
  Texts of the proof, what it needs of them: Clash.
-/
import Derived.Test.YtmlbphmbffkdnaaGreatGh39
namespace Go.Proofs.YtmlbphmbffkdnaaGreat
open Go.RowKit
set_option linter.unusedVariables false

theorem own_four (w : World) (base : Nat) (hb : base ≤ w.heap.size) {a b c d : Int} (ha : Tm.okB a = true) (hb' : Tm.okB b = true) (hc : Tm.okB c = true) (hd : Tm.okB d = true) :
    Own (w.alloc (.cells #[.int .i64 a, .int .i64 b, .int .i64 c, .int .i64 d] 3)) base (.slice (some ⟨w.heap.size, 0, none⟩) 4 4) [a, b, c, d] := by
  refine ⟨fun z hz => ?_, World.ownsRow_lit w #[.int .i64 a, .int .i64 b, .int .i64 c, .int .i64 d] 4 hb (by unfold maxLen; omega) rfl⟩
  simp at hz
  rcases hz with rfl | rfl | rfl | rfl
  · exact ok_fits ha
  · exact ok_fits hb'
  · exact ok_fits hc
  · exact ok_fits hd
theorem told_four {w W : World} (hb : Below w.heap.size w W) {a b c d : Int} (ha : Tm.okB a = true) (hb' : Tm.okB b = true) (hc : Tm.okB c = true) (hd : Tm.okB d = true) :
    Told w [a, b, c, d] (.returned (.slice (some ⟨W.heap.size, 0, none⟩) 4 4)) (W.alloc (.cells #[.int .i64 a, .int .i64 b, .int .i64 c, .int .i64 d] 3)) :=
  ⟨_, rfl, own_four W w.heap.size hb.size ha hb' hc hd, hb.alloc hb.size _⟩
theorem told_then {w W w' : World} {e : Ending} {zs : List Int} (hb : Below w.heap.size w W) (h : Told W.drew zs e w') : Told w zs e w' := by
  obtain ⟨v, he, ho, hb'⟩ := h
  exact ⟨v, he, ho.mono hb.size, below_then hb (below_undrew hb')⟩

end Go.Proofs.YtmlbphmbffkdnaaGreat
