/-
  Texts of the proof, what it needs of them: Math.
-/
namespace Go.Proofs.YtmlbphmbffkdnaaGreat.Tm

/-- whether a number is a mixed one -/
def okB (n : Int) : Bool := decide (0 ≤ n) && decide (n < 65521)
theorem okB_iff (n : Int) : okB n = true ↔ 0 ≤ n ∧ n < 65521 := by simp [okB]
def pairRaw (a b : Int) : Int := (a * 8191 + b * 127 + a * b + 31) % 65521
def pair (a b : Int) : Int := if okB a = true ∧ okB b = true then pairRaw a b else 0

theorem pairRaw_bd (a b : Int) : 0 ≤ pairRaw a b ∧ pairRaw a b < 65521 := by unfold pairRaw; omega
theorem pair_bd (a b : Int) : 0 ≤ pair a b ∧ pair a b < 65521 := by
  unfold pair; split
  · exact pairRaw_bd a b
  · omega
theorem pair_ok (a b : Int) : okB (pair a b) = true := (okB_iff _).2 (pair_bd a b)
theorem pair_of {a b : Int} (ha : okB a = true) (hb : okB b = true) : pair a b = pairRaw a b := by unfold pair; rw [if_pos ⟨ha, hb⟩]
theorem pair_no {a b : Int} (h : ¬ (okB a = true ∧ okB b = true)) : pair a b = 0 := by unfold pair; rw [if_neg h]
theorem pairRaw_spec (a b : Int) : (a * 8191 + b * 127 + a * b % 65521 + 31) % 65521 = pairRaw a b := by unfold pairRaw; omega

/-- bounds of products of two mixed numbers -/
theorem mul_bd {a b : Int} (ha : 0 ≤ a ∧ a < 65521) (hb : 0 ≤ b ∧ b < 65521) : 0 ≤ a * b ∧ a * b ≤ 4292870400 := by
  refine ⟨Int.mul_nonneg ha.1 hb.1, ?_⟩
  have h1 : a * b ≤ 65520 * b := Int.mul_le_mul_of_nonneg_right (by omega) hb.1
  have h2 : 65520 * b ≤ 65520 * 65520 := Int.mul_le_mul_of_nonneg_left (by omega) (by omega)
  omega

/-! ### 65521 is a prime -/
/-! ### leaves -/
def leafStep (m n : Int) : Int := (m * 4099 + n % 65521 + 11) % 65521
def leafTo (l : List Int) (m : Int) : Int := l.foldl leafStep m
def leaf (l : List Int) : Int := (leafTo l 7 * 31 + l.length) % 65521
theorem leafStep_bd (m n : Int) : 0 ≤ leafStep m n ∧ leafStep m n < 65521 := by unfold leafStep; omega
theorem leafTo_bd (l : List Int) (m : Int) (h : 0 ≤ m ∧ m < 65521) : 0 ≤ leafTo l m ∧ leafTo l m < 65521 := by
  induction l generalizing m with
  | nil => exact h
  | cons x r ih => exact ih _ (leafStep_bd m x)
theorem leafTo_snoc (l : List Int) (x m : Int) : leafTo (l ++ [x]) m = leafStep (leafTo l m) x := by simp [leafTo]
theorem leaf_bd (l : List Int) : 0 ≤ leaf l ∧ leaf l < 65521 := by unfold leaf; omega
theorem leaf_ok (l : List Int) : okB (leaf l) = true := (okB_iff _).2 (leaf_bd l)
theorem take_snoc (l : List Int) (k : Nat) (h : k < l.length) : l.take (k + 1) = l.take k ++ [l.getD k 0] := by
  rw [List.take_succ_eq_append_getElem h]; simp [List.getD, List.getElem?_eq_getElem h]
theorem leafTo_take (l : List Int) (k : Nat) (m : Int) (h : k < l.length) : leafTo (l.take (k + 1)) m = leafStep (leafTo (l.take k) m) (l.getD k 0) := by
  rw [take_snoc l k h, leafTo_snoc]

/-! ### trees -/
def okAll (l : List Int) : Bool := l.all okB
def treOk (l : List Int) : Bool := decide (l.length ≤ 40) && okAll l
def split (n : Int) : Int := if n ≤ 2 then 1 else if n ≤ 4 then 2 else if n ≤ 8 then 4 else if n ≤ 16 then 8 else if n ≤ 32 then 16 else 32
def treSplit (n : Int) : Int := if n < 2 ∨ 40 < n then 0 else split n
theorem split_bd {n : Int} (h : 2 ≤ n) (h2 : n ≤ 40) : 1 ≤ split n ∧ split n < n ∧ n ≤ 2 * split n := by
  unfold split; repeat' split
  all_goals omega
theorem treSplit_of {n : Int} (h : 2 ≤ n) (h2 : n ≤ 40) : treSplit n = split n := by unfold treSplit; rw [if_neg (by omega)]
theorem treSplit_no {n : Int} (h : n < 2 ∨ 40 < n) : treSplit n = 0 := by unfold treSplit; rw [if_pos h]
end Go.Proofs.YtmlbphmbffkdnaaGreat.Tm
namespace Go.Proofs.YtmlbphmbffkdnaaGreat.Tm
theorem split_eq {n k : Int} (h1 : k = 1 ∨ k = 2 ∨ k = 4 ∨ k = 8 ∨ k = 16 ∨ k = 32) (h2 : k < n) (h3 : n ≤ 2 * k) : k = split n := by
  unfold split; repeat' split
  all_goals omega
theorem getD_eq {l : List Int} {k : Nat} (h : k < l.length) : l.getD k 0 = l[k] := by simp [List.getD, List.getElem?_eq_getElem h]
theorem okAll_no {l : List Int} {k : Nat} (h : k < l.length) (hk : okB (l.getD k 0) = false) : okAll l = false := by
  rw [getD_eq h] at hk
  unfold okAll
  rw [List.all_eq_false]
  exact ⟨l[k], List.getElem_mem h, by simp [hk]⟩
theorem okAll_yes {l : List Int} (h : ∀ k, k < l.length → okB (l.getD k 0) = true) : okAll l = true := by
  unfold okAll
  rw [List.all_eq_true]
  intro x hx
  obtain ⟨k, hk, rfl⟩ := List.getElem_of_mem hx
  have := h k hk
  rwa [getD_eq hk] at this
theorem okAll_at {l : List Int} (h : okAll l = true) {k : Nat} (hk : k < l.length) : okB (l.getD k 0) = true := by
  unfold okAll at h
  rw [List.all_eq_true] at h
  rw [getD_eq hk]
  exact h _ (List.getElem_mem hk)
end Go.Proofs.YtmlbphmbffkdnaaGreat.Tm
namespace Go.Proofs.YtmlbphmbffkdnaaGreat.Tm
end Go.Proofs.YtmlbphmbffkdnaaGreat.Tm
namespace Go.Proofs.YtmlbphmbffkdnaaGreat.Tm

/-- what a leaf leads to, the proof's last number first -/
def upR : List Int → Int → Int → Int → Option Int
  | [], n, _, leaf => if n < 2 then some leaf else none
  | p :: rp, n, i, leaf => if n < 2 then none else if i < split n then (upR rp (split n) i leaf).map (fun x => pair x p) else (upR rp (n - split n) (i - split n) leaf).map (fun x => pair p x)
def up (n i leaf : Int) (proof : List Int) : Option Int := upR proof.reverse n i leaf

theorem up_nil_one {n i leaf : Int} (h : n < 2) : up n i leaf [] = some leaf := by simp [up, upR, h]
theorem up_nil_more {n i leaf : Int} (h : 2 ≤ n) : up n i leaf [] = none := by simp [up, upR]; omega
theorem up_cons_one {n i leaf p : Int} {init : List Int} (h : n < 2) : up n i leaf (init ++ [p]) = none := by simp [up, upR, h]
theorem up_left {n i leaf p : Int} {init : List Int} (h : 2 ≤ n) (hi : i < split n) : up n i leaf (init ++ [p]) = (up (split n) i leaf init).map (fun x => pair x p) := by
  simp [up, upR, show ¬ n < 2 by omega, hi]
theorem up_right {n i leaf p : Int} {init : List Int} (h : 2 ≤ n) (hi : ¬ i < split n) : up n i leaf (init ++ [p]) = (up (n - split n) (i - split n) leaf init).map (fun x => pair p x) := by
  simp [up, upR, show ¬ n < 2 by omega, hi]
theorem up_ok {leaf : Int} (hl : okB leaf = true) (proof : List Int) : ∀ n i x, up n i leaf proof = some x → okB x = true := by
  unfold up
  induction proof.reverse with
  | nil => intro n i x h; simp only [upR] at h; split at h; cases h; exact hl; cases h
  | cons p rp _ =>
    intro n i x h
    simp only [upR] at h
    split at h
    · cases h
    · split at h
      · rw [Option.map_eq_some_iff] at h
        obtain ⟨y, _, rfl⟩ := h
        exact pair_ok _ _
      · rw [Option.map_eq_some_iff] at h
        obtain ⟨y, _, rfl⟩ := h
        exact pair_ok _ _
theorem snoc_of {l : List Int} {k : Nat} (h : l.length = k + 1) : l = l.take k ++ [l.getD k 0] := by
  rw [← take_snoc l k (by omega), ← h, List.take_length]
theorem okAll_take {l : List Int} (h : okAll l = true) (k : Nat) : okAll (l.take k) = true := by
  unfold okAll at *
  rw [List.all_eq_true] at *
  exact fun x hx => h x (List.mem_of_mem_take hx)
theorem okAll_drop {l : List Int} (h : okAll l = true) (k : Nat) : okAll (l.drop k) = true := by
  unfold okAll at *
  rw [List.all_eq_true] at *
  exact fun x hx => h x (List.mem_of_mem_drop hx)

/-- TreUp's answer -/
def treUp (n i leaf : Int) (proof : List Int) : Option Int :=
  if 1 ≤ n ∧ n ≤ 40 ∧ 0 ≤ i ∧ i < n ∧ okB leaf = true ∧ treOk proof = true then up n i leaf proof else none
def treCheck (root n i leaf : Int) (proof : List Int) : Bool := (treUp n i leaf proof).isSome && ((treUp n i leaf proof).getD 0 == root)
end Go.Proofs.YtmlbphmbffkdnaaGreat.Tm
namespace Go.Proofs.YtmlbphmbffkdnaaGreat.Tm

/-- where a list is parted -/
def sp (l : List Int) : Nat := (split l.length).toNat
theorem sp_bd {l : List Int} (h : 2 ≤ l.length) (h2 : l.length ≤ 40) : 1 ≤ sp l ∧ sp l < l.length ∧ l.length ≤ 2 * sp l := by
  have := split_bd (n := l.length) (by omega) (by omega)
  unfold sp; omega
theorem sp_int {l : List Int} (h : 2 ≤ l.length) (h2 : l.length ≤ 40) : split l.length = (sp l : Int) := by
  have := split_bd (n := l.length) (by omega) (by omega)
  unfold sp; omega
def rootF : Nat → List Int → Int
  | 0, _ => 5
  | f + 1, l => if l.length = 0 then 5 else if l.length = 1 then l.getD 0 0 else pair (rootF f (l.take (sp l))) (rootF f (l.drop (sp l)))
theorem rootF_same : ∀ (f g : Nat) (l : List Int), l.length ≤ f → l.length ≤ g → l.length ≤ 40 → rootF f l = rootF g l := by
  intro f
  induction f with
  | zero =>
    intro g l h1 h2 h3
    cases g with
    | zero => rfl
    | succ g => simp only [rootF]; rw [if_pos (by omega)]
  | succ f ih =>
    intro g l h1 h2 h3
    cases g with
    | zero => simp only [rootF]; rw [if_pos (by omega)]
    | succ g =>
      simp only [rootF]
      by_cases e0 : l.length = 0
      · rw [if_pos e0, if_pos e0]
      · rw [if_neg e0, if_neg e0]
        by_cases e1 : l.length = 1
        · rw [if_pos e1, if_pos e1]
        · rw [if_neg e1, if_neg e1]
          have hs := sp_bd (l := l) (by omega) h3
          rw [ih g (l.take (sp l)) (by rw [List.length_take]; omega) (by rw [List.length_take]; omega) (by rw [List.length_take]; omega),
            ih g (l.drop (sp l)) (by rw [List.length_drop]; omega) (by rw [List.length_drop]; omega) (by rw [List.length_drop]; omega)]
def root (l : List Int) : Int := rootF l.length l
theorem root_nil {l : List Int} (h : l.length = 0) : root l = 5 := by unfold root; rw [h]; rfl
theorem root_one {l : List Int} (h : l.length = 1) : root l = l.getD 0 0 := by unfold root; rw [h]; simp only [rootF]; rw [if_neg (by omega), if_pos h]
theorem root_more {l : List Int} (h : 2 ≤ l.length) (h2 : l.length ≤ 40) : root l = pair (root (l.take (sp l))) (root (l.drop (sp l))) := by
  have hs := sp_bd h h2
  obtain ⟨f, hf⟩ : ∃ f, l.length = f + 1 := ⟨l.length - 1, by omega⟩
  unfold root
  rw [hf]
  simp only [rootF]
  rw [if_neg (by omega), if_neg (by omega)]
  rw [rootF_same f (l.take (sp l)).length (l.take (sp l)) (by rw [List.length_take]; omega) (Nat.le_refl _) (by rw [List.length_take]; omega),
    rootF_same f (l.drop (sp l)).length (l.drop (sp l)) (by rw [List.length_drop]; omega) (Nat.le_refl _) (by rw [List.length_drop]; omega)]
theorem root_ok : ∀ (f : Nat) (l : List Int), l.length ≤ f → l.length ≤ 40 → okAll l = true → okB (root l) = true := by
  intro f
  induction f with
  | zero => intro l h1 h2 h3; rw [root_nil (by omega)]; decide
  | succ f ih =>
    intro l h1 h2 h3
    by_cases e0 : l.length = 0
    · rw [root_nil e0]; decide
    · by_cases e1 : l.length = 1
      · rw [root_one e1]; exact okAll_at h3 (by omega)
      · rw [root_more (by omega) h2]; exact pair_ok _ _
def treRoot (l : List Int) : Int := if treOk l = true then root l else 0
end Go.Proofs.YtmlbphmbffkdnaaGreat.Tm
namespace Go.Proofs.YtmlbphmbffkdnaaGreat.Tm

def proofF : Nat → List Int → Nat → List Int
  | 0, _, _ => []
  | f + 1, l, i => if l.length < 2 then [] else if i < sp l then proofF f (l.take (sp l)) i ++ [root (l.drop (sp l))] else proofF f (l.drop (sp l)) (i - sp l) ++ [root (l.take (sp l))]
theorem proofF_same : ∀ (f g : Nat) (l : List Int) (i : Nat), l.length ≤ f → l.length ≤ g → l.length ≤ 40 → proofF f l i = proofF g l i := by
  intro f
  induction f with
  | zero =>
    intro g l i h1 h2 h3
    cases g with
    | zero => rfl
    | succ g => simp only [proofF]; rw [if_pos (by omega)]
  | succ f ih =>
    intro g l i h1 h2 h3
    cases g with
    | zero => simp only [proofF]; rw [if_pos (by omega)]
    | succ g =>
      simp only [proofF]
      by_cases e0 : l.length < 2
      · rw [if_pos e0, if_pos e0]
      · rw [if_neg e0, if_neg e0]
        have hs := sp_bd (l := l) (by omega) h3
        rw [ih g (l.take (sp l)) i (by rw [List.length_take]; omega) (by rw [List.length_take]; omega) (by rw [List.length_take]; omega),
          ih g (l.drop (sp l)) (i - sp l) (by rw [List.length_drop]; omega) (by rw [List.length_drop]; omega) (by rw [List.length_drop]; omega)]
def prf (l : List Int) (i : Nat) : List Int := proofF l.length l i
theorem prf_one {l : List Int} {i : Nat} (h : l.length < 2) : prf l i = [] := by
  unfold prf
  cases hf : l.length with
  | zero => rfl
  | succ f => simp only [proofF]; rw [if_pos h]
theorem prf_left {l : List Int} {i : Nat} (h : 2 ≤ l.length) (h2 : l.length ≤ 40) (hi : i < sp l) : prf l i = prf (l.take (sp l)) i ++ [root (l.drop (sp l))] := by
  have hs := sp_bd h h2
  obtain ⟨f, hf⟩ : ∃ f, l.length = f + 1 := ⟨l.length - 1, by omega⟩
  unfold prf
  rw [hf]
  simp only [proofF]
  rw [if_neg (by omega), if_pos hi, proofF_same f (l.take (sp l)).length (l.take (sp l)) i (by rw [List.length_take]; omega) (Nat.le_refl _) (by rw [List.length_take]; omega)]
theorem prf_right {l : List Int} {i : Nat} (h : 2 ≤ l.length) (h2 : l.length ≤ 40) (hi : ¬ i < sp l) : prf l i = prf (l.drop (sp l)) (i - sp l) ++ [root (l.take (sp l))] := by
  have hs := sp_bd h h2
  obtain ⟨f, hf⟩ : ∃ f, l.length = f + 1 := ⟨l.length - 1, by omega⟩
  unfold prf
  rw [hf]
  simp only [proofF]
  rw [if_neg (by omega), if_neg hi, proofF_same f (l.drop (sp l)).length (l.drop (sp l)) (i - sp l) (by rw [List.length_drop]; omega) (Nat.le_refl _) (by rw [List.length_drop]; omega)]

/-- how high a tree of n leaves is -/
def high (n : Nat) : Nat := if n ≤ 1 then 0 else if n ≤ 2 then 1 else if n ≤ 4 then 2 else if n ≤ 8 then 3 else if n ≤ 16 then 4 else if n ≤ 32 then 5 else 6
theorem high_all : ∀ n : Nat, n < 41 → 2 ≤ n → high (split n).toNat + 1 ≤ high n ∧ high (n - (split n).toNat) + 1 ≤ high n := by decide
theorem high_part {l : List Int} (h : 2 ≤ l.length) (h2 : l.length ≤ 40) : high (sp l) + 1 ≤ high l.length ∧ high (l.length - sp l) + 1 ≤ high l.length := high_all l.length (by omega) h
theorem prf_len : ∀ (f : Nat) (l : List Int) (i : Nat), l.length ≤ f → l.length ≤ 40 → (prf l i).length ≤ high l.length := by
  intro f
  induction f with
  | zero => intro l i h1 h2; rw [prf_one (by omega)]; simp
  | succ f ih =>
    intro l i h1 h2
    by_cases e0 : l.length < 2
    · rw [prf_one e0]; simp
    · have hs := sp_bd (l := l) (by omega) h2
      have hp := high_part (l := l) (by omega) h2
      by_cases hi : i < sp l
      · have h3 := ih (l.take (sp l)) i (by rw [List.length_take]; omega) (by rw [List.length_take]; omega)
        rw [List.length_take, Nat.min_eq_left (by omega)] at h3
        rw [prf_left (by omega) h2 hi, List.length_append, List.length_singleton]
        omega
      · have h3 := ih (l.drop (sp l)) (i - sp l) (by rw [List.length_drop]; omega) (by rw [List.length_drop]; omega)
        rw [List.length_drop] at h3
        rw [prf_right (by omega) h2 hi, List.length_append, List.length_singleton]
        omega
theorem high_le (n : Nat) : high n ≤ 6 := by
  unfold high
  repeat' split
  all_goals omega
theorem prf_len6 {l : List Int} (i : Nat) (h : l.length ≤ 40) : (prf l i).length ≤ 6 := Nat.le_trans (prf_len _ l i (Nat.le_refl _) h) (high_le _)
theorem okAll_snoc {l : List Int} {x : Int} (h : okAll l = true) (hx : okB x = true) : okAll (l ++ [x]) = true := by simp [okAll] at *; exact ⟨h, hx⟩
theorem prf_ok : ∀ (f : Nat) (l : List Int) (i : Nat), l.length ≤ f → l.length ≤ 40 → okAll l = true → okAll (prf l i) = true := by
  intro f
  induction f with
  | zero => intro l i h1 h2 h3; rw [prf_one (by omega)]; rfl
  | succ f ih =>
    intro l i h1 h2 h3
    by_cases e0 : l.length < 2
    · rw [prf_one e0]; rfl
    · have hs := sp_bd (l := l) (by omega) h2
      by_cases hi : i < sp l
      · rw [prf_left (by omega) h2 hi]
        exact okAll_snoc (ih _ i (by rw [List.length_take]; omega) (by rw [List.length_take]; omega) (okAll_take h3 _)) (root_ok _ _ (Nat.le_refl _) (by rw [List.length_drop]; omega) (okAll_drop h3 _))
      · rw [prf_right (by omega) h2 hi]
        exact okAll_snoc (ih _ _ (by rw [List.length_drop]; omega) (by rw [List.length_drop]; omega) (okAll_drop h3 _)) (root_ok _ _ (Nat.le_refl _) (by rw [List.length_take]; omega) (okAll_take h3 _))
theorem getD_take {l : List Int} {k i : Nat} (h : i < k) : (l.take k).getD i 0 = l.getD i 0 := by simp [List.getD, h]
theorem getD_drop {l : List Int} {k i : Nat} (h : k ≤ i) : (l.drop k).getD (i - k) 0 = l.getD i 0 := by
  simp [List.getD]; rw [show k + (i - k) = i by omega]
/-- WHAT IS THERE CAN BE SHOWN -/
theorem up_prf : ∀ (f : Nat) (l : List Int) (i : Nat), l.length ≤ f → l.length ≤ 40 → i < l.length → okAll l = true → up l.length i (l.getD i 0) (prf l i) = some (root l) := by
  intro f
  induction f with
  | zero => intro l i h1 h2 h3 h4; omega
  | succ f ih =>
    intro l i h1 h2 h3 h4
    by_cases e0 : l.length < 2
    · rw [prf_one e0, up_nil_one (by omega), root_one (by omega)]
      rw [show i = 0 by omega]
    · have hs := sp_bd (l := l) (by omega) h2
      have hsi := sp_int (l := l) (by omega) h2
      by_cases hi : i < sp l
      · have h5 := ih (l.take (sp l)) i (by rw [List.length_take]; omega) (by rw [List.length_take]; omega) (by rw [List.length_take]; omega) (okAll_take h4 _)
        rw [getD_take hi, List.length_take, Nat.min_eq_left (by omega)] at h5
        rw [prf_left (by omega) h2 hi, up_left (by omega) (by rw [hsi]; omega), hsi, h5, root_more (by omega) h2]
        rfl
      · have h5 := ih (l.drop (sp l)) (i - sp l) (by rw [List.length_drop]; omega) (by rw [List.length_drop]; omega) (by rw [List.length_drop]; omega) (okAll_drop h4 _)
        rw [getD_drop (by omega), List.length_drop] at h5
        rw [prf_right (by omega) h2 hi, up_right (by omega) (by rw [hsi]; omega), hsi]
        rw [show ((l.length : Int) - (sp l : Int)) = ((l.length - sp l : Nat) : Int) by omega, show ((i : Int) - (sp l : Int)) = ((i - sp l : Nat) : Int) by omega, h5, root_more (by omega) h2]
        rfl
/-- TreProof's answer -/
def treProof (l : List Int) (i : Int) : List Int := if treOk l = true ∧ 0 ≤ i ∧ i < l.length then prf l i.toNat else []
end Go.Proofs.YtmlbphmbffkdnaaGreat.Tm
namespace Go.Proofs.YtmlbphmbffkdnaaGreat.Tm

/-- both roots that a proof of growth leads to, the proof's last number first -/
def bothR : List Int → Int → Int → Int → Bool → Option (Int × Int)
  | [], m, n, old, alone => if m = n ∧ alone = true then some (old, old) else none
  | p :: rp, m, n, old, alone =>
    if m = n then (if alone = false ∧ rp = [] then some (p, p) else none)
    else if m ≤ split n then (bothR rp m (split n) old alone).map (fun x => (x.1, pair x.2 p))
    else (bothR rp (m - split n) (n - split n) old false).map (fun x => (pair p x.1, pair p x.2))
def both (m n old : Int) (proof : List Int) (alone : Bool) : Option (Int × Int) := bothR proof.reverse m n old alone
theorem both_nil_all {m n old : Int} (h : m = n) : both m n old [] true = some (old, old) := by simp [both, bothR, h]
theorem both_nil_not {m n old : Int} {alone : Bool} (h : ¬ (m = n ∧ alone = true)) : both m n old [] alone = none := by
  simp only [both, List.reverse_nil, bothR]; rw [if_neg h]
theorem both_one {m n old p : Int} (h : m = n) : both m n old [p] false = some (p, p) := by simp [both, bothR, h]
theorem both_all_not {m n old p : Int} {init : List Int} {alone : Bool} (h : m = n) (h2 : ¬ (alone = false ∧ init = [])) : both m n old (init ++ [p]) alone = none := by
  simp only [both, List.reverse_append, List.reverse_cons, List.reverse_nil, List.nil_append, List.singleton_append, bothR]
  rw [if_pos h, if_neg (by simpa using h2)]
theorem both_left {m n old p : Int} {init : List Int} {alone : Bool} (h : ¬ m = n) (hm : m ≤ split n) : both m n old (init ++ [p]) alone = (both m (split n) old init alone).map (fun x => (x.1, pair x.2 p)) := by
  simp only [both, List.reverse_append, List.reverse_cons, List.reverse_nil, List.nil_append, List.singleton_append, bothR]
  rw [if_neg h, if_pos hm]
theorem both_right {m n old p : Int} {init : List Int} {alone : Bool} (h : ¬ m = n) (hm : ¬ m ≤ split n) : both m n old (init ++ [p]) alone = (both (m - split n) (n - split n) old init false).map (fun x => (pair p x.1, pair p x.2)) := by
  simp only [both, List.reverse_append, List.reverse_cons, List.reverse_nil, List.nil_append, List.singleton_append, bothR]
  rw [if_neg h, if_neg hm]
theorem bothR_ok {old : Int} (hl : okB old = true) : ∀ (rp : List Int) (m n : Int) (alone : Bool) (x : Int × Int), okAll rp = true → bothR rp m n old alone = some x → okB x.1 = true ∧ okB x.2 = true := by
  intro rp
  induction rp with
  | nil => intro m n alone x _ h; simp only [bothR] at h; split at h; cases h; exact ⟨hl, hl⟩; cases h
  | cons p rp ih =>
    intro m n alone x hok h
    have hp : okB p = true := by simp [okAll] at hok; exact hok.1
    have hr : okAll rp = true := by simp [okAll] at hok ⊢; exact hok.2
    simp only [bothR] at h
    split at h
    · split at h
      · cases h; exact ⟨hp, hp⟩
      · cases h
    · split at h
      · rw [Option.map_eq_some_iff] at h
        obtain ⟨y, hy, rfl⟩ := h
        exact ⟨(ih _ _ _ _ hr hy).1, pair_ok _ _⟩
      · rw [Option.map_eq_some_iff] at h
        obtain ⟨y, _, rfl⟩ := h
        exact ⟨pair_ok _ _, pair_ok _ _⟩
theorem okAll_reverse {l : List Int} (h : okAll l = true) : okAll l.reverse = true := by
  unfold okAll at *; rw [List.all_eq_true] at *; exact fun x hx => h x (List.mem_reverse.1 hx)
theorem both_ok {old : Int} (hl : okB old = true) {ps : List Int} (hp : okAll ps = true) {m n : Int} {alone : Bool} {x : Int × Int} (h : both m n old ps alone = some x) : okB x.1 = true ∧ okB x.2 = true :=
  bothR_ok hl _ _ _ _ _ (okAll_reverse hp) h

/-- ConCheck's answer -/
def conCheck (m old n root : Int) (ps : List Int) : Bool :=
  if 1 ≤ n ∧ n ≤ 40 ∧ 1 ≤ m ∧ m ≤ n ∧ okB old = true ∧ okB root = true ∧ treOk ps = true then decide (both m n old ps true = some (old, root)) else false
end Go.Proofs.YtmlbphmbffkdnaaGreat.Tm
namespace Go.Proofs.YtmlbphmbffkdnaaGreat.Tm

/-- an entry: kind, ticket, who, price -/
abbrev Ent := Int × Int × Int × Int
/-- how a ticket stands: who, face, used -/
abbrev Rw := Int × Int × Bool

def cap (f : Int) : Int := if 1 ≤ f ∧ f ≤ 50 then f + f / 5 else 0
theorem cap_of {f : Int} (h : 1 ≤ f ∧ f ≤ 50) : cap f = f + f / 5 := by unfold cap; rw [if_pos h]
theorem cap_no {f : Int} (h : ¬ (1 ≤ f ∧ f ≤ 50)) : cap f = 0 := by unfold cap; rw [if_neg h]
theorem cap_bd (f : Int) : 0 ≤ cap f ∧ cap f ≤ 60 := by unfold cap; split <;> omega
def entOk (e : Ent) : Bool :=
  decide (0 ≤ e.2.1 ∧ e.2.1 ≤ 7 ∧ 1 ≤ e.2.2.1 ∧ e.2.2.1 ≤ 5 ∧ ((e.1 = 1 ∧ 1 ≤ e.2.2.2 ∧ e.2.2.2 ≤ 50) ∨ (e.1 = 2 ∧ 1 ≤ e.2.2.2 ∧ e.2.2.2 ≤ 60) ∨ (e.1 = 3 ∧ e.2.2.2 = 0)))
theorem entOk_iff {e : Ent} : entOk e = true ↔ 0 ≤ e.2.1 ∧ e.2.1 ≤ 7 ∧ 1 ≤ e.2.2.1 ∧ e.2.2.1 ≤ 5 ∧ ((e.1 = 1 ∧ 1 ≤ e.2.2.2 ∧ e.2.2.2 ≤ 50) ∨ (e.1 = 2 ∧ 1 ≤ e.2.2.2 ∧ e.2.2.2 ≤ 60) ∨ (e.1 = 3 ∧ e.2.2.2 = 0)) := by
  unfold entOk; rw [decide_eq_true_iff]

def noRow : Rw := (0, 0, false)
def rowOk (r : Rw) : Bool := decide (r = noRow ∨ (1 ≤ r.1 ∧ r.1 ≤ 5 ∧ 1 ≤ r.2.1 ∧ r.2.1 ≤ 50))
theorem rowOk_iff {r : Rw} : rowOk r = true ↔ r = noRow ∨ (1 ≤ r.1 ∧ r.1 ≤ 5 ∧ 1 ≤ r.2.1 ∧ r.2.1 ≤ 50) := by unfold rowOk; rw [decide_eq_true_iff]
def ownOk (rs : List Rw) : Bool := decide (rs.length = 8) && rs.all rowOk
theorem ownOk_iff {rs : List Rw} : ownOk rs = true ↔ rs.length = 8 ∧ ∀ r ∈ rs, rowOk r = true := by
  unfold ownOk; rw [Bool.and_eq_true, decide_eq_true_iff, List.all_eq_true]
def at' (rs : List Rw) (t : Int) : Rw := rs.getD t.toNat noRow
theorem at_mem {rs : List Rw} {t : Int} (h0 : 0 ≤ t) (h : t < rs.length) : at' rs t ∈ rs := by
  unfold at'
  rw [List.getD_eq_getElem?_getD, List.getElem?_eq_getElem (by omega : t.toNat < rs.length)]
  exact List.getElem_mem _
theorem at_ok {rs : List Rw} (h : ownOk rs = true) {t : Int} (h0 : 0 ≤ t) (h7 : t ≤ 7) : rowOk (at' rs t) = true := by
  obtain ⟨h1, h2⟩ := ownOk_iff.1 h
  exact h2 _ (at_mem h0 (by omega))

/-- whether an entry may follow on how its ticket stands -/
def may (r : Rw) (e : Ent) : Bool :=
  decide ((e.1 = 1 ∧ r.1 = 0) ∨ (e.1 = 2 ∧ r.1 ≠ 0 ∧ r.2.2 = false ∧ r.1 ≠ e.2.2.1 ∧ e.2.2.2 ≤ cap r.2.1) ∨ (e.1 = 3 ∧ r.1 = e.2.2.1 ∧ r.2.2 = false))
def fits (rs : List Rw) (e : Ent) : Bool := ownOk rs && entOk e && may (at' rs e.2.1) e
theorem fits_iff {rs : List Rw} {e : Ent} : fits rs e = true ↔ ownOk rs = true ∧ entOk e = true ∧ may (at' rs e.2.1) e = true := by
  unfold fits; rw [Bool.and_eq_true, Bool.and_eq_true, and_assoc]
/-- how its ticket stands behind an entry -/
def turned (r : Rw) (e : Ent) : Rw := if e.1 = 1 then (e.2.2.1, e.2.2.2, false) else if e.1 = 2 then (e.2.2.1, r.2.1, r.2.2) else (r.1, r.2.1, true)
def put (rs : List Rw) (e : Ent) : List Rw := rs.set e.2.1.toNat (turned (at' rs e.2.1) e)
theorem put_len (rs : List Rw) (e : Ent) : (put rs e).length = rs.length := by unfold put; rw [List.length_set]
theorem turned_ok {r : Rw} {e : Ent} (hr : rowOk r = true) (he : entOk e = true) (hm : may r e = true) : rowOk (turned r e) = true := by
  rw [rowOk_iff] at hr ⊢
  rw [entOk_iff] at he
  unfold may at hm
  rw [decide_eq_true_iff] at hm
  right
  unfold turned noRow at *
  rcases hm with ⟨k, h⟩ | ⟨k, h⟩ | ⟨k, h⟩
  · rw [if_pos k]; simp only; omega
  · rw [if_neg (by omega), if_pos k]
    simp only
    rcases hr with hr | hr
    · rw [hr] at h; simp at h
    · omega
  · rw [if_neg (by omega), if_neg (by omega)]
    simp only
    rcases hr with hr | hr
    · rw [hr] at h; simp at h; omega
    · omega
theorem put_ok {rs : List Rw} {e : Ent} (h : fits rs e = true) : ownOk (put rs e) = true := by
  obtain ⟨h1, h2, h3⟩ := fits_iff.1 h
  have h4 := entOk_iff.1 h2
  refine ownOk_iff.2 ⟨by rw [put_len]; exact (ownOk_iff.1 h1).1, fun r hr => ?_⟩
  rcases List.mem_or_eq_of_mem_set hr with h5 | h5
  · exact (ownOk_iff.1 h1).2 r h5
  · subst h5
    exact turned_ok (at_ok h1 (by omega) (by omega)) h2 h3

/-- rows behind entries, one behind the other -/
def foldE : List Ent → List Rw → Option (List Rw)
  | [], rs => some rs
  | e :: l, rs => if fits rs e = true then foldE l (put rs e) else none
def none8 : List Rw := List.replicate 8 noRow
def ownFold (l : List Ent) : Option (List Rw) := if l.length ≤ 40 then foldE l none8 else none
theorem none8_ok : ownOk none8 = true := by decide
theorem foldE_ok : ∀ (l : List Ent) (rs rs' : List Rw), ownOk rs = true → foldE l rs = some rs' → ownOk rs' = true := by
  intro l
  induction l with
  | nil => intro rs rs' h h2; simp only [foldE] at h2; cases h2; exact h
  | cons e l ih =>
    intro rs rs' h h2
    simp only [foldE] at h2
    split at h2
    · rename_i hf; exact ih _ _ (put_ok hf) h2
    · cases h2
theorem foldE_snoc : ∀ (l : List Ent) (e : Ent) (rs : List Rw), foldE (l ++ [e]) rs = (foldE l rs).bind fun x => if fits x e = true then some (put x e) else none := by
  intro l
  induction l with
  | nil => intro e rs; simp only [List.nil_append, foldE]; rfl
  | cons x l ih =>
    intro e rs
    simp only [List.cons_append, foldE]
    split
    · exact ih e _
    · rfl
theorem foldE_take : ∀ (l : List Ent) (k : Nat) (rs rs' : List Rw), foldE l rs = some rs' → ∃ x, foldE (l.take k) rs = some x := by
  intro l
  induction l with
  | nil => intro k rs rs' h; exact ⟨rs, by rw [List.take_nil]; rfl⟩
  | cons e l ih =>
    intro k rs rs' h
    cases k with
    | zero => exact ⟨rs, rfl⟩
    | succ k =>
      simp only [foldE] at h
      split at h
      · rename_i hf
        obtain ⟨x, hx⟩ := ih k _ _ h
        exact ⟨x, by simp only [List.take_succ_cons, foldE]; rw [if_pos hf]; exact hx⟩
      · cases h

end Go.Proofs.YtmlbphmbffkdnaaGreat.Tm
namespace Go.Proofs.YtmlbphmbffkdnaaGreat.Tm

/-- what somebody has -/
def has (p : List Int) (u : Int) : Int := p.getD (u - 1).toNat 0
end Go.Proofs.YtmlbphmbffkdnaaGreat.Tm
