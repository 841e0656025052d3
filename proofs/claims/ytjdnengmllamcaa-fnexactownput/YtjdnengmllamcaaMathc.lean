/-
  Trees, as plain mathematics: roots.
-/
import Derived.Test.YtjdnengmllamcaaMathb
namespace Go.Proofs.Ytjdnengmllamcaa.Tm

/-- where a list is parted -/
def sp (l : List Int) : Nat := (split l.length).toNat
theorem sp_bd {l : List Int} (h : 2 ≤ l.length) (h2 : l.length ≤ 40) : 1 ≤ sp l ∧ sp l < l.length ∧ l.length ≤ 2 * sp l := by
  have := split_bd (n := l.length) (by omega) (by omega)
  unfold sp; omega
theorem sp_int {l : List Int} (h : 2 ≤ l.length) (h2 : l.length ≤ 40) : split l.length = (sp l : Int) := by
  have := split_bd (n := l.length) (by omega) (by omega)
  unfold sp; omega
def rootF : Nat → List Int → Int
  | 0, _ => 5
  | f + 1, l => if l.length = 0 then 5 else if l.length = 1 then l.getD 0 0 else pair (rootF f (l.take (sp l))) (rootF f (l.drop (sp l)))
theorem rootF_same : ∀ (f g : Nat) (l : List Int), l.length ≤ f → l.length ≤ g → l.length ≤ 40 → rootF f l = rootF g l := by
  intro f
  induction f with
  | zero =>
    intro g l h1 h2 h3
    cases g with
    | zero => rfl
    | succ g => simp only [rootF]; rw [if_pos (by omega)]
  | succ f ih =>
    intro g l h1 h2 h3
    cases g with
    | zero => simp only [rootF]; rw [if_pos (by omega)]
    | succ g =>
      simp only [rootF]
      by_cases e0 : l.length = 0
      · rw [if_pos e0, if_pos e0]
      · rw [if_neg e0, if_neg e0]
        by_cases e1 : l.length = 1
        · rw [if_pos e1, if_pos e1]
        · rw [if_neg e1, if_neg e1]
          have hs := sp_bd (l := l) (by omega) h3
          rw [ih g (l.take (sp l)) (by rw [List.length_take]; omega) (by rw [List.length_take]; omega) (by rw [List.length_take]; omega),
            ih g (l.drop (sp l)) (by rw [List.length_drop]; omega) (by rw [List.length_drop]; omega) (by rw [List.length_drop]; omega)]
def root (l : List Int) : Int := rootF l.length l
theorem root_nil {l : List Int} (h : l.length = 0) : root l = 5 := by unfold root; rw [h]; rfl
theorem root_one {l : List Int} (h : l.length = 1) : root l = l.getD 0 0 := by unfold root; rw [h]; simp only [rootF]; rw [if_neg (by omega), if_pos h]
theorem root_more {l : List Int} (h : 2 ≤ l.length) (h2 : l.length ≤ 40) : root l = pair (root (l.take (sp l))) (root (l.drop (sp l))) := by
  have hs := sp_bd h h2
  obtain ⟨f, hf⟩ : ∃ f, l.length = f + 1 := ⟨l.length - 1, by omega⟩
  unfold root
  rw [hf]
  simp only [rootF]
  rw [if_neg (by omega), if_neg (by omega)]
  rw [rootF_same f (l.take (sp l)).length (l.take (sp l)) (by rw [List.length_take]; omega) (Nat.le_refl _) (by rw [List.length_take]; omega),
    rootF_same f (l.drop (sp l)).length (l.drop (sp l)) (by rw [List.length_drop]; omega) (Nat.le_refl _) (by rw [List.length_drop]; omega)]
theorem root_ok : ∀ (f : Nat) (l : List Int), l.length ≤ f → l.length ≤ 40 → okAll l = true → okB (root l) = true := by
  intro f
  induction f with
  | zero => intro l h1 h2 h3; rw [root_nil (by omega)]; decide
  | succ f ih =>
    intro l h1 h2 h3
    by_cases e0 : l.length = 0
    · rw [root_nil e0]; decide
    · by_cases e1 : l.length = 1
      · rw [root_one e1]; exact okAll_at h3 (by omega)
      · rw [root_more (by omega) h2]; exact pair_ok _ _
def treRoot (l : List Int) : Int := if treOk l = true then root l else 0
end Go.Proofs.Ytjdnengmllamcaa.Tm
