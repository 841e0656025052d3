/-
  Texts of the proof, what it needs of them: Mnew, Hout, L7c.
-/
import Derived.Test.YtmlbphmbffkdnaaGreatGh12
import Derived.Test.YtmlbphmbffkdnaaGreatGh13
import Derived.Test.YtmlbphmbffkdnaaGreatGh15
import Derived.Test.YtmlbphmbffkdnaaGreatGh18
import Derived.Test.YtmlbphmbffkdnaaGreatGh29
import Derived.Test.YtmlbphmbffkdnaaGreatGh31
namespace Go.Proofs.YtmlbphmbffkdnaaGreat
open Go.RowKit
set_option linter.unusedVariables false
set_option maxRecDepth 100000

end Go.Proofs.YtmlbphmbffkdnaaGreat
namespace Go.Proofs.YtmlbphmbffkdnaaGreat
open Go.RowKit
set_option linter.unusedVariables false
set_option maxRecDepth 100000

theorem EOwn.monoH {w : World} {base base' : Nat} {v : Value} {zs : List Tm.Ent} (h : EOwn w base v zs) (hb : base' ≤ base) : EOwn w base' v zs := ⟨h.1, owns_mono h.2 hb⟩
end Go.Proofs.YtmlbphmbffkdnaaGreat
namespace Go.Proofs.YtmlbphmbffkdnaaGreat
open Go.RowKit
set_option linter.unusedVariables false
set_option maxRecDepth 100000

theorem elE : ElT 40 80 4 32 := ⟨Tryz.underlying40, by obtain ⟨i0, hi, hz0, hz1, hz2⟩ := info_parts Tryz.infoE; exact ⟨i0, _, hi, hz0, hz1, hz2, rfl⟩, by decide⟩
theorem elI : ElT 25 3 1 8 := ⟨Tryz.underlying25, by obtain ⟨i0, hi, hz0, hz1, hz2⟩ := info_parts Tryz.info3; exact ⟨i0, _, hi, hz0, hz1, hz2, rfl⟩, by decide⟩
theorem srcSl {α : Type} {f : α → List Value} {n : Nat} (hf : ∀ x, (f x).length = n) (h1 : ∀ x, ∀ u ∈ f x, u.oneCell' = true) {w : World} {ao : Option Addr} {xs : List α} {c : Nat} (h : Sl f w ao xs) : Src w ao xs.length c n (xs.flatMap f) := by
  refine ⟨flat_len f n hf xs, fun u hu => by obtain ⟨x, _, hx⟩ := List.mem_flatMap.1 hu; exact h1 x u hx, ?_⟩
  rcases xs with _ | ⟨x, t⟩
  · exact .inl rfl
  · obtain ⟨b, off, rfl, hc⟩ := h (by simp)
    exact .inr ⟨_, rfl, fun j u hj => by
      have e : (Addr.add ⟨b, off, none⟩ j) = ⟨b, off + j, none⟩ := by unfold Addr.add; split <;> simp_all
      rw [e]; exact hc j u hj⟩
theorem srcE {w : World} {ao : Option Addr} {xs : List Tm.Ent} {c : Nat} (h : ERow w ao xs) : Src w ao xs.length c 4 (xs.flatMap eCells) := srcSl eCells_len (fun x u hu => by obtain ⟨a, b, c, d⟩ := x; simp [eCells] at hu; rcases hu with rfl | rfl | rfl | rfl <;> rfl) h.2
theorem srcD {w : World} {ao : Option Addr} {xs : List Tm.Deal} {c : Nat} (h : DRow w ao xs) : Src w ao xs.length c 5 (xs.flatMap dCells) := srcSl dCells_len (fun x u hu => by obtain ⟨a, b, c, d, e⟩ := x; simp [dCells] at hu; rcases hu with rfl | rfl | rfl | rfl | rfl <;> rfl) h.2
theorem srcI {w : World} {ao : Option Addr} {xs : List Int} {c : Nat} (h : Row w ao xs) : Src w ao xs.length c 1 (xs.map (Value.int .i64)) := by
  refine ⟨by simp, ints_oneCell _ _, ?_⟩
  rcases xs with _ | ⟨x, t⟩
  · exact .inl rfl
  · obtain ⟨b, off, rfl, -⟩ := h.2 (by simp)
    exact .inr ⟨_, rfl, row_src h⟩

theorem live_form {w : World} {base e size n : Nat} {v : Value} {xs : List Value} (h : w.ownsRow base e size v n xs) : ∃ ao cap, v = .slice ao n cap := by
  rcases h.2 with ⟨rfl, rfl⟩ | ⟨g, cap, cur, rfl, _⟩
  · exact ⟨none, 0, rfl⟩
  · exact ⟨_, cap, rfl⟩
end Go.Proofs.YtmlbphmbffkdnaaGreat
