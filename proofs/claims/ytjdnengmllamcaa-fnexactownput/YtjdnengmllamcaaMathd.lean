/-
  Trees, as plain mathematics: proofs, and that they show what is there.
-/
import Derived.Test.YtjdnengmllamcaaMathc
namespace Go.Proofs.Ytjdnengmllamcaa.Tm

def proofF : Nat → List Int → Nat → List Int
  | 0, _, _ => []
  | f + 1, l, i => if l.length < 2 then [] else if i < sp l then proofF f (l.take (sp l)) i ++ [root (l.drop (sp l))] else proofF f (l.drop (sp l)) (i - sp l) ++ [root (l.take (sp l))]
theorem proofF_same : ∀ (f g : Nat) (l : List Int) (i : Nat), l.length ≤ f → l.length ≤ g → l.length ≤ 40 → proofF f l i = proofF g l i := by
  intro f
  induction f with
  | zero =>
    intro g l i h1 h2 h3
    cases g with
    | zero => rfl
    | succ g => simp only [proofF]; rw [if_pos (by omega)]
  | succ f ih =>
    intro g l i h1 h2 h3
    cases g with
    | zero => simp only [proofF]; rw [if_pos (by omega)]
    | succ g =>
      simp only [proofF]
      by_cases e0 : l.length < 2
      · rw [if_pos e0, if_pos e0]
      · rw [if_neg e0, if_neg e0]
        have hs := sp_bd (l := l) (by omega) h3
        rw [ih g (l.take (sp l)) i (by rw [List.length_take]; omega) (by rw [List.length_take]; omega) (by rw [List.length_take]; omega),
          ih g (l.drop (sp l)) (i - sp l) (by rw [List.length_drop]; omega) (by rw [List.length_drop]; omega) (by rw [List.length_drop]; omega)]
def prf (l : List Int) (i : Nat) : List Int := proofF l.length l i
theorem prf_one {l : List Int} {i : Nat} (h : l.length < 2) : prf l i = [] := by
  unfold prf
  cases hf : l.length with
  | zero => rfl
  | succ f => simp only [proofF]; rw [if_pos h]
theorem prf_left {l : List Int} {i : Nat} (h : 2 ≤ l.length) (h2 : l.length ≤ 40) (hi : i < sp l) : prf l i = prf (l.take (sp l)) i ++ [root (l.drop (sp l))] := by
  have hs := sp_bd h h2
  obtain ⟨f, hf⟩ : ∃ f, l.length = f + 1 := ⟨l.length - 1, by omega⟩
  unfold prf
  rw [hf]
  simp only [proofF]
  rw [if_neg (by omega), if_pos hi, proofF_same f (l.take (sp l)).length (l.take (sp l)) i (by rw [List.length_take]; omega) (Nat.le_refl _) (by rw [List.length_take]; omega)]
theorem prf_right {l : List Int} {i : Nat} (h : 2 ≤ l.length) (h2 : l.length ≤ 40) (hi : ¬ i < sp l) : prf l i = prf (l.drop (sp l)) (i - sp l) ++ [root (l.take (sp l))] := by
  have hs := sp_bd h h2
  obtain ⟨f, hf⟩ : ∃ f, l.length = f + 1 := ⟨l.length - 1, by omega⟩
  unfold prf
  rw [hf]
  simp only [proofF]
  rw [if_neg (by omega), if_neg hi, proofF_same f (l.drop (sp l)).length (l.drop (sp l)) (i - sp l) (by rw [List.length_drop]; omega) (Nat.le_refl _) (by rw [List.length_drop]; omega)]

/-- how high a tree of n leaves is -/
def high (n : Nat) : Nat := if n ≤ 1 then 0 else if n ≤ 2 then 1 else if n ≤ 4 then 2 else if n ≤ 8 then 3 else if n ≤ 16 then 4 else if n ≤ 32 then 5 else 6
theorem high_all : ∀ n : Nat, n < 41 → 2 ≤ n → high (split n).toNat + 1 ≤ high n ∧ high (n - (split n).toNat) + 1 ≤ high n := by decide
theorem high_part {l : List Int} (h : 2 ≤ l.length) (h2 : l.length ≤ 40) : high (sp l) + 1 ≤ high l.length ∧ high (l.length - sp l) + 1 ≤ high l.length := high_all l.length (by omega) h
theorem prf_len : ∀ (f : Nat) (l : List Int) (i : Nat), l.length ≤ f → l.length ≤ 40 → (prf l i).length ≤ high l.length := by
  intro f
  induction f with
  | zero => intro l i h1 h2; rw [prf_one (by omega)]; simp
  | succ f ih =>
    intro l i h1 h2
    by_cases e0 : l.length < 2
    · rw [prf_one e0]; simp
    · have hs := sp_bd (l := l) (by omega) h2
      have hp := high_part (l := l) (by omega) h2
      by_cases hi : i < sp l
      · have h3 := ih (l.take (sp l)) i (by rw [List.length_take]; omega) (by rw [List.length_take]; omega)
        rw [List.length_take, Nat.min_eq_left (by omega)] at h3
        rw [prf_left (by omega) h2 hi, List.length_append, List.length_singleton]
        omega
      · have h3 := ih (l.drop (sp l)) (i - sp l) (by rw [List.length_drop]; omega) (by rw [List.length_drop]; omega)
        rw [List.length_drop] at h3
        rw [prf_right (by omega) h2 hi, List.length_append, List.length_singleton]
        omega
theorem high_le (n : Nat) : high n ≤ 6 := by
  unfold high
  repeat' split
  all_goals omega
theorem prf_len6 {l : List Int} (i : Nat) (h : l.length ≤ 40) : (prf l i).length ≤ 6 := Nat.le_trans (prf_len _ l i (Nat.le_refl _) h) (high_le _)
theorem okAll_snoc {l : List Int} {x : Int} (h : okAll l = true) (hx : okB x = true) : okAll (l ++ [x]) = true := by simp [okAll] at *; exact ⟨h, hx⟩
theorem prf_ok : ∀ (f : Nat) (l : List Int) (i : Nat), l.length ≤ f → l.length ≤ 40 → okAll l = true → okAll (prf l i) = true := by
  intro f
  induction f with
  | zero => intro l i h1 h2 h3; rw [prf_one (by omega)]; rfl
  | succ f ih =>
    intro l i h1 h2 h3
    by_cases e0 : l.length < 2
    · rw [prf_one e0]; rfl
    · have hs := sp_bd (l := l) (by omega) h2
      by_cases hi : i < sp l
      · rw [prf_left (by omega) h2 hi]
        exact okAll_snoc (ih _ i (by rw [List.length_take]; omega) (by rw [List.length_take]; omega) (okAll_take h3 _)) (root_ok _ _ (Nat.le_refl _) (by rw [List.length_drop]; omega) (okAll_drop h3 _))
      · rw [prf_right (by omega) h2 hi]
        exact okAll_snoc (ih _ _ (by rw [List.length_drop]; omega) (by rw [List.length_drop]; omega) (okAll_drop h3 _)) (root_ok _ _ (Nat.le_refl _) (by rw [List.length_take]; omega) (okAll_take h3 _))
theorem getD_take {l : List Int} {k i : Nat} (h : i < k) : (l.take k).getD i 0 = l.getD i 0 := by simp [List.getD, h]
theorem getD_drop {l : List Int} {k i : Nat} (h : k ≤ i) : (l.drop k).getD (i - k) 0 = l.getD i 0 := by
  simp [List.getD]; rw [show k + (i - k) = i by omega]
/-- WHAT IS THERE CAN BE SHOWN -/
theorem up_prf : ∀ (f : Nat) (l : List Int) (i : Nat), l.length ≤ f → l.length ≤ 40 → i < l.length → okAll l = true → up l.length i (l.getD i 0) (prf l i) = some (root l) := by
  intro f
  induction f with
  | zero => intro l i h1 h2 h3 h4; omega
  | succ f ih =>
    intro l i h1 h2 h3 h4
    by_cases e0 : l.length < 2
    · rw [prf_one e0, up_nil_one (by omega), root_one (by omega)]
      rw [show i = 0 by omega]
    · have hs := sp_bd (l := l) (by omega) h2
      have hsi := sp_int (l := l) (by omega) h2
      by_cases hi : i < sp l
      · have h5 := ih (l.take (sp l)) i (by rw [List.length_take]; omega) (by rw [List.length_take]; omega) (by rw [List.length_take]; omega) (okAll_take h4 _)
        rw [getD_take hi, List.length_take, Nat.min_eq_left (by omega)] at h5
        rw [prf_left (by omega) h2 hi, up_left (by omega) (by rw [hsi]; omega), hsi, h5, root_more (by omega) h2]
        rfl
      · have h5 := ih (l.drop (sp l)) (i - sp l) (by rw [List.length_drop]; omega) (by rw [List.length_drop]; omega) (by rw [List.length_drop]; omega) (okAll_drop h4 _)
        rw [getD_drop (by omega), List.length_drop] at h5
        rw [prf_right (by omega) h2 hi, up_right (by omega) (by rw [hsi]; omega), hsi]
        rw [show ((l.length : Int) - (sp l : Int)) = ((l.length - sp l : Nat) : Int) by omega, show ((i : Int) - (sp l : Int)) = ((i - sp l : Nat) : Int) by omega, h5, root_more (by omega) h2]
        rfl
/-- TreProof's answer -/
def treProof (l : List Int) (i : Int) : List Int := if treOk l = true ∧ 0 ≤ i ∧ i < l.length then prf l i.toNat else []
end Go.Proofs.Ytjdnengmllamcaa.Tm
