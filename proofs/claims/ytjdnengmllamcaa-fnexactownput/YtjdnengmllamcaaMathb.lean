/-
  Trees, as plain mathematics: what a proof leads to.
-/
import Derived.Test.YtjdnengmllamcaaMath
namespace Go.Proofs.Ytjdnengmllamcaa.Tm

/-- what a leaf leads to, the proof's last number first -/
def upR : List Int → Int → Int → Int → Option Int
  | [], n, _, leaf => if n < 2 then some leaf else none
  | p :: rp, n, i, leaf => if n < 2 then none else if i < split n then (upR rp (split n) i leaf).map (fun x => pair x p) else (upR rp (n - split n) (i - split n) leaf).map (fun x => pair p x)
def up (n i leaf : Int) (proof : List Int) : Option Int := upR proof.reverse n i leaf

theorem up_nil_one {n i leaf : Int} (h : n < 2) : up n i leaf [] = some leaf := by simp [up, upR, h]
theorem up_nil_more {n i leaf : Int} (h : 2 ≤ n) : up n i leaf [] = none := by simp [up, upR]; omega
theorem up_cons_one {n i leaf p : Int} {init : List Int} (h : n < 2) : up n i leaf (init ++ [p]) = none := by simp [up, upR, h]
theorem up_left {n i leaf p : Int} {init : List Int} (h : 2 ≤ n) (hi : i < split n) : up n i leaf (init ++ [p]) = (up (split n) i leaf init).map (fun x => pair x p) := by
  simp [up, upR, show ¬ n < 2 by omega, hi]
theorem up_right {n i leaf p : Int} {init : List Int} (h : 2 ≤ n) (hi : ¬ i < split n) : up n i leaf (init ++ [p]) = (up (n - split n) (i - split n) leaf init).map (fun x => pair p x) := by
  simp [up, upR, show ¬ n < 2 by omega, hi]
theorem up_ok {leaf : Int} (hl : okB leaf = true) (proof : List Int) : ∀ n i x, up n i leaf proof = some x → okB x = true := by
  unfold up
  induction proof.reverse with
  | nil => intro n i x h; simp only [upR] at h; split at h; cases h; exact hl; cases h
  | cons p rp _ =>
    intro n i x h
    simp only [upR] at h
    split at h
    · cases h
    · split at h
      · rw [Option.map_eq_some_iff] at h
        obtain ⟨y, _, rfl⟩ := h
        exact pair_ok _ _
      · rw [Option.map_eq_some_iff] at h
        obtain ⟨y, _, rfl⟩ := h
        exact pair_ok _ _
theorem snoc_of {l : List Int} {k : Nat} (h : l.length = k + 1) : l = l.take k ++ [l.getD k 0] := by
  rw [← take_snoc l k (by omega), ← h, List.take_length]
theorem okAll_take {l : List Int} (h : okAll l = true) (k : Nat) : okAll (l.take k) = true := by
  unfold okAll at *
  rw [List.all_eq_true] at *
  exact fun x hx => h x (List.mem_of_mem_take hx)
theorem okAll_drop {l : List Int} (h : okAll l = true) (k : Nat) : okAll (l.drop k) = true := by
  unfold okAll at *
  rw [List.all_eq_true] at *
  exact fun x hx => h x (List.mem_of_mem_drop hx)

/-- TreUp's answer -/
def treUp (n i leaf : Int) (proof : List Int) : Option Int :=
  if 1 ≤ n ∧ n ≤ 40 ∧ 0 ≤ i ∧ i < n ∧ okB leaf = true ∧ treOk proof = true then up n i leaf proof else none
def treCheck (root n i leaf : Int) (proof : List Int) : Bool := (treUp n i leaf proof).isSome && ((treUp n i leaf proof).getD 0 == root)
end Go.Proofs.Ytjdnengmllamcaa.Tm
