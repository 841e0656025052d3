/-
  Trees, as plain mathematics: what a proof leads to.
  Trees, as plain mathematics: roots.
  Trees, as plain mathematics: proofs, and that they show what is there.
  How trees grow, as plain mathematics: the proof of growth, what it leads to, and that it shows what has grown.
  Entries, and how tickets stand, as plain mathematics: caps, what is ok, what may follow, how entries lead from rows to rows; and that a ticket is issued once and entered with once.
  Purses as plain mathematics: whether they are ok, what somebody has, what it is to turn one, to move money, to sum up.
-/

namespace Go.Proofs.Ytmlbphmbffkdnaa.Tm

/-- whether a number is a mixed one -/
def okB (n : Int) : Bool := decide (0 ≤ n) && decide (n < 65521)
theorem okB_iff (n : Int) : okB n = true ↔ 0 ≤ n ∧ n < 65521 := by simp [okB]
theorem okB_no (n : Int) : okB n = false ↔ ¬ (0 ≤ n ∧ n < 65521) := by rw [← okB_iff]; simp

def pairRaw (a b : Int) : Int := (a * 8191 + b * 127 + a * b + 31) % 65521
def pair (a b : Int) : Int := if okB a = true ∧ okB b = true then pairRaw a b else 0

theorem pairRaw_bd (a b : Int) : 0 ≤ pairRaw a b ∧ pairRaw a b < 65521 := by unfold pairRaw; omega
theorem pair_bd (a b : Int) : 0 ≤ pair a b ∧ pair a b < 65521 := by
  unfold pair; split
  · exact pairRaw_bd a b
  · omega
theorem pair_ok (a b : Int) : okB (pair a b) = true := (okB_iff _).2 (pair_bd a b)
theorem pair_of {a b : Int} (ha : okB a = true) (hb : okB b = true) : pair a b = pairRaw a b := by unfold pair; rw [if_pos ⟨ha, hb⟩]
theorem pair_no {a b : Int} (h : ¬ (okB a = true ∧ okB b = true)) : pair a b = 0 := by unfold pair; rw [if_neg h]
theorem pairRaw_spec (a b : Int) : (a * 8191 + b * 127 + a * b % 65521 + 31) % 65521 = pairRaw a b := by unfold pairRaw; omega

/-- bounds of products of two mixed numbers -/
theorem mul_bd {a b : Int} (ha : 0 ≤ a ∧ a < 65521) (hb : 0 ≤ b ∧ b < 65521) : 0 ≤ a * b ∧ a * b ≤ 4292870400 := by
  refine ⟨Int.mul_nonneg ha.1 hb.1, ?_⟩
  have h1 : a * b ≤ 65520 * b := Int.mul_le_mul_of_nonneg_right (by omega) hb.1
  have h2 : 65520 * b ≤ 65520 * 65520 := Int.mul_le_mul_of_nonneg_left (by omega) (by omega)
  omega

/-! ### 65521 is a prime -/
theorem small_no : ∀ d : Nat, d < 256 → 2 ≤ d → 65521 % d ≠ 0 := by decide +kernel
theorem div_of {d : Nat} (h : d ∣ 65521) : d = 1 ∨ d = 65521 := by
  obtain ⟨e, he⟩ := h
  have key : ∀ x y : Nat, 65521 = x * y → x ≤ y → x = 1 := by
    intro x y hxy hle
    have hx : x < 256 := by
      rcases Nat.lt_or_ge x 256 with h | h
      · exact h
      · have : 256 * 256 ≤ x * y := Nat.mul_le_mul h (by omega)
        omega
    rcases Nat.lt_or_ge x 2 with h | h
    · rcases Nat.lt_or_ge x 1 with h0 | h0
      · have : x = 0 := by omega
        subst this; omega
      · omega
    · exfalso
      exact small_no x hx h (by rw [hxy]; exact Nat.mul_mod_right x y)
  rcases Nat.le_total d e with h | h
  · exact Or.inl (key d e he h)
  · right
    have h1 := key e d (by rw [he, Nat.mul_comm]) h
    subst h1; omega
theorem prime_nat {a b : Nat} (h : 65521 ∣ a * b) : 65521 ∣ a ∨ 65521 ∣ b := by
  rcases div_of (Nat.gcd_dvd_left 65521 a) with h1 | h1
  · exact Or.inr (Nat.Coprime.dvd_of_dvd_mul_left (Nat.coprime_iff_gcd_eq_one.2 h1) h)
  · left; rw [← h1]; exact Nat.gcd_dvd_right 65521 a
theorem prime_int {a b : Int} (h : (65521 : Int) ∣ a * b) : (65521 : Int) ∣ a ∨ (65521 : Int) ∣ b := by
  have h1 : (65521 : Nat) ∣ a.natAbs * b.natAbs := by
    have := Int.natAbs_dvd_natAbs.2 h
    rwa [Int.natAbs_mul] at this
  rcases prime_nat h1 with h2 | h2
  · left; exact Int.natAbs_dvd_natAbs.1 (by simpa using h2)
  · right; exact Int.natAbs_dvd_natAbs.1 (by simpa using h2)

/-- two on the left that mix with one on the right to the same are one -/
theorem pairRaw_left {a c b : Int} (ha : 0 ≤ a ∧ a < 65521) (hc : 0 ≤ c ∧ c < 65521) (hb : 0 ≤ b ∧ b < 65521) (hn : b ≠ 57330) (h : pairRaw c b = pairRaw a b) : c = a := by
  unfold pairRaw at h
  have h1 : (65521 : Int) ∣ (c - a) * (8191 + b) := by
    have e : (c - a) * (8191 + b) = (c * 8191 + b * 127 + c * b + 31) - (a * 8191 + b * 127 + a * b + 31) := by
      rw [Int.sub_mul, Int.mul_add, Int.mul_add]; omega
    rw [e]; omega
  rcases prime_int h1 with h2 | h2 <;> omega
theorem pairRaw_right {a b c : Int} (ha : 0 ≤ a ∧ a < 65521) (hb : 0 ≤ b ∧ b < 65521) (hc : 0 ≤ c ∧ c < 65521) (hn : a ≠ 65394) (h : pairRaw a c = pairRaw a b) : c = b := by
  unfold pairRaw at h
  have h1 : (65521 : Int) ∣ (c - b) * (127 + a) := by
    have e : (c - b) * (127 + a) = (a * 8191 + c * 127 + a * c + 31) - (a * 8191 + b * 127 + a * b + 31) := by
      rw [Int.sub_mul, Int.mul_add, Int.mul_add, Int.mul_comm c a, Int.mul_comm b a]; omega
    rw [e]; omega
  rcases prime_int h1 with h2 | h2 <;> omega

/-! ### leaves -/
def leafStep (m n : Int) : Int := (m * 4099 + n % 65521 + 11) % 65521
def leafTo (l : List Int) (m : Int) : Int := l.foldl leafStep m
def leaf (l : List Int) : Int := (leafTo l 7 * 31 + l.length) % 65521
theorem leafStep_bd (m n : Int) : 0 ≤ leafStep m n ∧ leafStep m n < 65521 := by unfold leafStep; omega
theorem leafTo_bd (l : List Int) (m : Int) (h : 0 ≤ m ∧ m < 65521) : 0 ≤ leafTo l m ∧ leafTo l m < 65521 := by
  induction l generalizing m with
  | nil => exact h
  | cons x r ih => exact ih _ (leafStep_bd m x)
theorem leafTo_snoc (l : List Int) (x m : Int) : leafTo (l ++ [x]) m = leafStep (leafTo l m) x := by simp [leafTo]
theorem leaf_bd (l : List Int) : 0 ≤ leaf l ∧ leaf l < 65521 := by unfold leaf; omega
theorem leaf_ok (l : List Int) : okB (leaf l) = true := (okB_iff _).2 (leaf_bd l)
theorem leaf_last (l : List Int) (x y : Int) (h : y = x + 1 ∨ y = x - 1) : leaf (l ++ [y]) ≠ leaf (l ++ [x]) := by
  unfold leaf
  rw [leafTo_snoc, leafTo_snoc]
  have b := leafTo_bd l 7 (by omega)
  generalize leafTo l 7 = m at *
  simp only [List.length_append, List.length_cons, List.length_nil]
  generalize ((l.length + (0 + 1) : Nat) : Int) = len
  unfold leafStep
  omega
theorem take_snoc (l : List Int) (k : Nat) (h : k < l.length) : l.take (k + 1) = l.take k ++ [l.getD k 0] := by
  rw [List.take_succ_eq_append_getElem h]; simp [List.getD, List.getElem?_eq_getElem h]
theorem leafTo_take (l : List Int) (k : Nat) (m : Int) (h : k < l.length) : leafTo (l.take (k + 1)) m = leafStep (leafTo (l.take k) m) (l.getD k 0) := by
  rw [take_snoc l k h, leafTo_snoc]

/-! ### trees -/
def okAll (l : List Int) : Bool := l.all okB
def treOk (l : List Int) : Bool := decide (l.length ≤ 40) && okAll l
def split (n : Int) : Int := if n ≤ 2 then 1 else if n ≤ 4 then 2 else if n ≤ 8 then 4 else if n ≤ 16 then 8 else if n ≤ 32 then 16 else 32
def treSplit (n : Int) : Int := if n < 2 ∨ 40 < n then 0 else split n
theorem split_bd {n : Int} (h : 2 ≤ n) (h2 : n ≤ 40) : 1 ≤ split n ∧ split n < n ∧ n ≤ 2 * split n := by
  unfold split; repeat' split
  all_goals omega
theorem treSplit_of {n : Int} (h : 2 ≤ n) (h2 : n ≤ 40) : treSplit n = split n := by unfold treSplit; rw [if_neg (by omega)]
theorem treSplit_no {n : Int} (h : n < 2 ∨ 40 < n) : treSplit n = 0 := by unfold treSplit; rw [if_pos h]
end Go.Proofs.Ytmlbphmbffkdnaa.Tm
namespace Go.Proofs.Ytmlbphmbffkdnaa.Tm
theorem split_eq {n k : Int} (h1 : k = 1 ∨ k = 2 ∨ k = 4 ∨ k = 8 ∨ k = 16 ∨ k = 32) (h2 : k < n) (h3 : n ≤ 2 * k) : k = split n := by
  unfold split; repeat' split
  all_goals omega
theorem getD_eq {l : List Int} {k : Nat} (h : k < l.length) : l.getD k 0 = l[k] := by simp [List.getD, List.getElem?_eq_getElem h]
theorem okAll_no {l : List Int} {k : Nat} (h : k < l.length) (hk : okB (l.getD k 0) = false) : okAll l = false := by
  rw [getD_eq h] at hk
  unfold okAll
  rw [List.all_eq_false]
  exact ⟨l[k], List.getElem_mem h, by simp [hk]⟩
theorem okAll_yes {l : List Int} (h : ∀ k, k < l.length → okB (l.getD k 0) = true) : okAll l = true := by
  unfold okAll
  rw [List.all_eq_true]
  intro x hx
  obtain ⟨k, hk, rfl⟩ := List.getElem_of_mem hx
  have := h k hk
  rwa [getD_eq hk] at this
theorem okAll_at {l : List Int} (h : okAll l = true) {k : Nat} (hk : k < l.length) : okB (l.getD k 0) = true := by
  unfold okAll at h
  rw [List.all_eq_true] at h
  rw [getD_eq hk]
  exact h _ (List.getElem_mem hk)
theorem ne_of_at {l r : List Int} {k : Nat} (hk : ¬ l.getD k 0 = r.getD k 0) : decide (l = r) = false := by
  rw [decide_eq_false_iff_not]; intro h; exact hk (by rw [h])
theorem eq_of_at {l r : List Int} (hl : l.length = r.length) (h : ∀ k, k < l.length → l.getD k 0 = r.getD k 0) : decide (l = r) = true := by
  rw [decide_eq_true_iff]
  apply List.ext_getElem hl
  intro k h1 h2
  have := h k h1
  rwa [getD_eq h1, getD_eq h2] at this
theorem ne_of_len {l r : List Int} (hl : ¬ l.length = r.length) : decide (l = r) = false := by
  rw [decide_eq_false_iff_not]; intro h; exact hl (by rw [h])
end Go.Proofs.Ytmlbphmbffkdnaa.Tm
namespace Go.Proofs.Ytmlbphmbffkdnaa.Tm
theorem split_pow (n : Int) : split n = 1 ∨ split n = 2 ∨ split n = 4 ∨ split n = 8 ∨ split n = 16 ∨ split n = 32 := by
  unfold split; repeat' split
  all_goals omega
end Go.Proofs.Ytmlbphmbffkdnaa.Tm
namespace Go.Proofs.Ytmlbphmbffkdnaa.Tm

/-- what a leaf leads to, the proof's last number first -/
def upR : List Int → Int → Int → Int → Option Int
  | [], n, _, leaf => if n < 2 then some leaf else none
  | p :: rp, n, i, leaf => if n < 2 then none else if i < split n then (upR rp (split n) i leaf).map (fun x => pair x p) else (upR rp (n - split n) (i - split n) leaf).map (fun x => pair p x)
def up (n i leaf : Int) (proof : List Int) : Option Int := upR proof.reverse n i leaf

theorem up_nil_one {n i leaf : Int} (h : n < 2) : up n i leaf [] = some leaf := by simp [up, upR, h]
theorem up_nil_more {n i leaf : Int} (h : 2 ≤ n) : up n i leaf [] = none := by simp [up, upR]; omega
theorem up_cons_one {n i leaf p : Int} {init : List Int} (h : n < 2) : up n i leaf (init ++ [p]) = none := by simp [up, upR, h]
theorem up_left {n i leaf p : Int} {init : List Int} (h : 2 ≤ n) (hi : i < split n) : up n i leaf (init ++ [p]) = (up (split n) i leaf init).map (fun x => pair x p) := by
  simp [up, upR, show ¬ n < 2 by omega, hi]
theorem up_right {n i leaf p : Int} {init : List Int} (h : 2 ≤ n) (hi : ¬ i < split n) : up n i leaf (init ++ [p]) = (up (n - split n) (i - split n) leaf init).map (fun x => pair p x) := by
  simp [up, upR, show ¬ n < 2 by omega, hi]
theorem up_ok {leaf : Int} (hl : okB leaf = true) (proof : List Int) : ∀ n i x, up n i leaf proof = some x → okB x = true := by
  unfold up
  induction proof.reverse with
  | nil => intro n i x h; simp only [upR] at h; split at h; cases h; exact hl; cases h
  | cons p rp _ =>
    intro n i x h
    simp only [upR] at h
    split at h
    · cases h
    · split at h
      · rw [Option.map_eq_some_iff] at h
        obtain ⟨y, _, rfl⟩ := h
        exact pair_ok _ _
      · rw [Option.map_eq_some_iff] at h
        obtain ⟨y, _, rfl⟩ := h
        exact pair_ok _ _
theorem snoc_of {l : List Int} {k : Nat} (h : l.length = k + 1) : l = l.take k ++ [l.getD k 0] := by
  rw [← take_snoc l k (by omega), ← h, List.take_length]
theorem okAll_take {l : List Int} (h : okAll l = true) (k : Nat) : okAll (l.take k) = true := by
  unfold okAll at *
  rw [List.all_eq_true] at *
  exact fun x hx => h x (List.mem_of_mem_take hx)
theorem okAll_drop {l : List Int} (h : okAll l = true) (k : Nat) : okAll (l.drop k) = true := by
  unfold okAll at *
  rw [List.all_eq_true] at *
  exact fun x hx => h x (List.mem_of_mem_drop hx)

/-- TreUp's answer -/
def treUp (n i leaf : Int) (proof : List Int) : Option Int :=
  if 1 ≤ n ∧ n ≤ 40 ∧ 0 ≤ i ∧ i < n ∧ okB leaf = true ∧ treOk proof = true then up n i leaf proof else none
def treCheck (root n i leaf : Int) (proof : List Int) : Bool := (treUp n i leaf proof).isSome && ((treUp n i leaf proof).getD 0 == root)
end Go.Proofs.Ytmlbphmbffkdnaa.Tm
namespace Go.Proofs.Ytmlbphmbffkdnaa.Tm

/-- where a list is parted -/
def sp (l : List Int) : Nat := (split l.length).toNat
theorem sp_bd {l : List Int} (h : 2 ≤ l.length) (h2 : l.length ≤ 40) : 1 ≤ sp l ∧ sp l < l.length ∧ l.length ≤ 2 * sp l := by
  have := split_bd (n := l.length) (by omega) (by omega)
  unfold sp; omega
theorem sp_int {l : List Int} (h : 2 ≤ l.length) (h2 : l.length ≤ 40) : split l.length = (sp l : Int) := by
  have := split_bd (n := l.length) (by omega) (by omega)
  unfold sp; omega
def rootF : Nat → List Int → Int
  | 0, _ => 5
  | f + 1, l => if l.length = 0 then 5 else if l.length = 1 then l.getD 0 0 else pair (rootF f (l.take (sp l))) (rootF f (l.drop (sp l)))
theorem rootF_same : ∀ (f g : Nat) (l : List Int), l.length ≤ f → l.length ≤ g → l.length ≤ 40 → rootF f l = rootF g l := by
  intro f
  induction f with
  | zero =>
    intro g l h1 h2 h3
    cases g with
    | zero => rfl
    | succ g => simp only [rootF]; rw [if_pos (by omega)]
  | succ f ih =>
    intro g l h1 h2 h3
    cases g with
    | zero => simp only [rootF]; rw [if_pos (by omega)]
    | succ g =>
      simp only [rootF]
      by_cases e0 : l.length = 0
      · rw [if_pos e0, if_pos e0]
      · rw [if_neg e0, if_neg e0]
        by_cases e1 : l.length = 1
        · rw [if_pos e1, if_pos e1]
        · rw [if_neg e1, if_neg e1]
          have hs := sp_bd (l := l) (by omega) h3
          rw [ih g (l.take (sp l)) (by rw [List.length_take]; omega) (by rw [List.length_take]; omega) (by rw [List.length_take]; omega),
            ih g (l.drop (sp l)) (by rw [List.length_drop]; omega) (by rw [List.length_drop]; omega) (by rw [List.length_drop]; omega)]
def root (l : List Int) : Int := rootF l.length l
theorem root_nil {l : List Int} (h : l.length = 0) : root l = 5 := by unfold root; rw [h]; rfl
theorem root_one {l : List Int} (h : l.length = 1) : root l = l.getD 0 0 := by unfold root; rw [h]; simp only [rootF]; rw [if_neg (by omega), if_pos h]
theorem root_more {l : List Int} (h : 2 ≤ l.length) (h2 : l.length ≤ 40) : root l = pair (root (l.take (sp l))) (root (l.drop (sp l))) := by
  have hs := sp_bd h h2
  obtain ⟨f, hf⟩ : ∃ f, l.length = f + 1 := ⟨l.length - 1, by omega⟩
  unfold root
  rw [hf]
  simp only [rootF]
  rw [if_neg (by omega), if_neg (by omega)]
  rw [rootF_same f (l.take (sp l)).length (l.take (sp l)) (by rw [List.length_take]; omega) (Nat.le_refl _) (by rw [List.length_take]; omega),
    rootF_same f (l.drop (sp l)).length (l.drop (sp l)) (by rw [List.length_drop]; omega) (Nat.le_refl _) (by rw [List.length_drop]; omega)]
theorem root_ok : ∀ (f : Nat) (l : List Int), l.length ≤ f → l.length ≤ 40 → okAll l = true → okB (root l) = true := by
  intro f
  induction f with
  | zero => intro l h1 h2 h3; rw [root_nil (by omega)]; decide
  | succ f ih =>
    intro l h1 h2 h3
    by_cases e0 : l.length = 0
    · rw [root_nil e0]; decide
    · by_cases e1 : l.length = 1
      · rw [root_one e1]; exact okAll_at h3 (by omega)
      · rw [root_more (by omega) h2]; exact pair_ok _ _
def treRoot (l : List Int) : Int := if treOk l = true then root l else 0
end Go.Proofs.Ytmlbphmbffkdnaa.Tm
namespace Go.Proofs.Ytmlbphmbffkdnaa.Tm

def proofF : Nat → List Int → Nat → List Int
  | 0, _, _ => []
  | f + 1, l, i => if l.length < 2 then [] else if i < sp l then proofF f (l.take (sp l)) i ++ [root (l.drop (sp l))] else proofF f (l.drop (sp l)) (i - sp l) ++ [root (l.take (sp l))]
theorem proofF_same : ∀ (f g : Nat) (l : List Int) (i : Nat), l.length ≤ f → l.length ≤ g → l.length ≤ 40 → proofF f l i = proofF g l i := by
  intro f
  induction f with
  | zero =>
    intro g l i h1 h2 h3
    cases g with
    | zero => rfl
    | succ g => simp only [proofF]; rw [if_pos (by omega)]
  | succ f ih =>
    intro g l i h1 h2 h3
    cases g with
    | zero => simp only [proofF]; rw [if_pos (by omega)]
    | succ g =>
      simp only [proofF]
      by_cases e0 : l.length < 2
      · rw [if_pos e0, if_pos e0]
      · rw [if_neg e0, if_neg e0]
        have hs := sp_bd (l := l) (by omega) h3
        rw [ih g (l.take (sp l)) i (by rw [List.length_take]; omega) (by rw [List.length_take]; omega) (by rw [List.length_take]; omega),
          ih g (l.drop (sp l)) (i - sp l) (by rw [List.length_drop]; omega) (by rw [List.length_drop]; omega) (by rw [List.length_drop]; omega)]
def prf (l : List Int) (i : Nat) : List Int := proofF l.length l i
theorem prf_one {l : List Int} {i : Nat} (h : l.length < 2) : prf l i = [] := by
  unfold prf
  cases hf : l.length with
  | zero => rfl
  | succ f => simp only [proofF]; rw [if_pos h]
theorem prf_left {l : List Int} {i : Nat} (h : 2 ≤ l.length) (h2 : l.length ≤ 40) (hi : i < sp l) : prf l i = prf (l.take (sp l)) i ++ [root (l.drop (sp l))] := by
  have hs := sp_bd h h2
  obtain ⟨f, hf⟩ : ∃ f, l.length = f + 1 := ⟨l.length - 1, by omega⟩
  unfold prf
  rw [hf]
  simp only [proofF]
  rw [if_neg (by omega), if_pos hi, proofF_same f (l.take (sp l)).length (l.take (sp l)) i (by rw [List.length_take]; omega) (Nat.le_refl _) (by rw [List.length_take]; omega)]
theorem prf_right {l : List Int} {i : Nat} (h : 2 ≤ l.length) (h2 : l.length ≤ 40) (hi : ¬ i < sp l) : prf l i = prf (l.drop (sp l)) (i - sp l) ++ [root (l.take (sp l))] := by
  have hs := sp_bd h h2
  obtain ⟨f, hf⟩ : ∃ f, l.length = f + 1 := ⟨l.length - 1, by omega⟩
  unfold prf
  rw [hf]
  simp only [proofF]
  rw [if_neg (by omega), if_neg hi, proofF_same f (l.drop (sp l)).length (l.drop (sp l)) (i - sp l) (by rw [List.length_drop]; omega) (Nat.le_refl _) (by rw [List.length_drop]; omega)]

/-- how high a tree of n leaves is -/
def high (n : Nat) : Nat := if n ≤ 1 then 0 else if n ≤ 2 then 1 else if n ≤ 4 then 2 else if n ≤ 8 then 3 else if n ≤ 16 then 4 else if n ≤ 32 then 5 else 6
theorem high_all : ∀ n : Nat, n < 41 → 2 ≤ n → high (split n).toNat + 1 ≤ high n ∧ high (n - (split n).toNat) + 1 ≤ high n := by decide
theorem high_part {l : List Int} (h : 2 ≤ l.length) (h2 : l.length ≤ 40) : high (sp l) + 1 ≤ high l.length ∧ high (l.length - sp l) + 1 ≤ high l.length := high_all l.length (by omega) h
theorem prf_len : ∀ (f : Nat) (l : List Int) (i : Nat), l.length ≤ f → l.length ≤ 40 → (prf l i).length ≤ high l.length := by
  intro f
  induction f with
  | zero => intro l i h1 h2; rw [prf_one (by omega)]; simp
  | succ f ih =>
    intro l i h1 h2
    by_cases e0 : l.length < 2
    · rw [prf_one e0]; simp
    · have hs := sp_bd (l := l) (by omega) h2
      have hp := high_part (l := l) (by omega) h2
      by_cases hi : i < sp l
      · have h3 := ih (l.take (sp l)) i (by rw [List.length_take]; omega) (by rw [List.length_take]; omega)
        rw [List.length_take, Nat.min_eq_left (by omega)] at h3
        rw [prf_left (by omega) h2 hi, List.length_append, List.length_singleton]
        omega
      · have h3 := ih (l.drop (sp l)) (i - sp l) (by rw [List.length_drop]; omega) (by rw [List.length_drop]; omega)
        rw [List.length_drop] at h3
        rw [prf_right (by omega) h2 hi, List.length_append, List.length_singleton]
        omega
theorem high_le (n : Nat) : high n ≤ 6 := by
  unfold high
  repeat' split
  all_goals omega
theorem prf_len6 {l : List Int} (i : Nat) (h : l.length ≤ 40) : (prf l i).length ≤ 6 := Nat.le_trans (prf_len _ l i (Nat.le_refl _) h) (high_le _)
theorem okAll_snoc {l : List Int} {x : Int} (h : okAll l = true) (hx : okB x = true) : okAll (l ++ [x]) = true := by simp [okAll] at *; exact ⟨h, hx⟩
theorem prf_ok : ∀ (f : Nat) (l : List Int) (i : Nat), l.length ≤ f → l.length ≤ 40 → okAll l = true → okAll (prf l i) = true := by
  intro f
  induction f with
  | zero => intro l i h1 h2 h3; rw [prf_one (by omega)]; rfl
  | succ f ih =>
    intro l i h1 h2 h3
    by_cases e0 : l.length < 2
    · rw [prf_one e0]; rfl
    · have hs := sp_bd (l := l) (by omega) h2
      by_cases hi : i < sp l
      · rw [prf_left (by omega) h2 hi]
        exact okAll_snoc (ih _ i (by rw [List.length_take]; omega) (by rw [List.length_take]; omega) (okAll_take h3 _)) (root_ok _ _ (Nat.le_refl _) (by rw [List.length_drop]; omega) (okAll_drop h3 _))
      · rw [prf_right (by omega) h2 hi]
        exact okAll_snoc (ih _ _ (by rw [List.length_drop]; omega) (by rw [List.length_drop]; omega) (okAll_drop h3 _)) (root_ok _ _ (Nat.le_refl _) (by rw [List.length_take]; omega) (okAll_take h3 _))
theorem getD_take {l : List Int} {k i : Nat} (h : i < k) : (l.take k).getD i 0 = l.getD i 0 := by simp [List.getD, h]
theorem getD_drop {l : List Int} {k i : Nat} (h : k ≤ i) : (l.drop k).getD (i - k) 0 = l.getD i 0 := by
  simp [List.getD]; rw [show k + (i - k) = i by omega]
/-- WHAT IS THERE CAN BE SHOWN -/
theorem up_prf : ∀ (f : Nat) (l : List Int) (i : Nat), l.length ≤ f → l.length ≤ 40 → i < l.length → okAll l = true → up l.length i (l.getD i 0) (prf l i) = some (root l) := by
  intro f
  induction f with
  | zero => intro l i h1 h2 h3 h4; omega
  | succ f ih =>
    intro l i h1 h2 h3 h4
    by_cases e0 : l.length < 2
    · rw [prf_one e0, up_nil_one (by omega), root_one (by omega)]
      rw [show i = 0 by omega]
    · have hs := sp_bd (l := l) (by omega) h2
      have hsi := sp_int (l := l) (by omega) h2
      by_cases hi : i < sp l
      · have h5 := ih (l.take (sp l)) i (by rw [List.length_take]; omega) (by rw [List.length_take]; omega) (by rw [List.length_take]; omega) (okAll_take h4 _)
        rw [getD_take hi, List.length_take, Nat.min_eq_left (by omega)] at h5
        rw [prf_left (by omega) h2 hi, up_left (by omega) (by rw [hsi]; omega), hsi, h5, root_more (by omega) h2]
        rfl
      · have h5 := ih (l.drop (sp l)) (i - sp l) (by rw [List.length_drop]; omega) (by rw [List.length_drop]; omega) (by rw [List.length_drop]; omega) (okAll_drop h4 _)
        rw [getD_drop (by omega), List.length_drop] at h5
        rw [prf_right (by omega) h2 hi, up_right (by omega) (by rw [hsi]; omega), hsi]
        rw [show ((l.length : Int) - (sp l : Int)) = ((l.length - sp l : Nat) : Int) by omega, show ((i : Int) - (sp l : Int)) = ((i - sp l : Nat) : Int) by omega, h5, root_more (by omega) h2]
        rfl
/-- TreProof's answer -/
def treProof (l : List Int) (i : Int) : List Int := if treOk l = true ∧ 0 ≤ i ∧ i < l.length then prf l i.toNat else []
end Go.Proofs.Ytmlbphmbffkdnaa.Tm
namespace Go.Proofs.Ytmlbphmbffkdnaa.Tm

/-- what shows that the first m leaves are the beginning of all; alone: whether it is told by the first m alone -/
def conF : Nat → List Int → Nat → Bool → List Int
  | 0, _, _, _ => []
  | f + 1, l, m, alone => if m = l.length then (if alone = true then [] else [root l]) else if m ≤ sp l then conF f (l.take (sp l)) m alone ++ [root (l.drop (sp l))] else conF f (l.drop (sp l)) (m - sp l) false ++ [root (l.take (sp l))]
theorem conF_same : ∀ (f g : Nat) (l : List Int) (m : Nat) (alone : Bool), l.length ≤ f → l.length ≤ g → l.length ≤ 40 → 1 ≤ m → m ≤ l.length → conF f l m alone = conF g l m alone := by
  intro f
  induction f with
  | zero => intro g l m alone h1 h2 h3 h4 h5; omega
  | succ f ih =>
    intro g l m alone h1 h2 h3 h4 h5
    cases g with
    | zero => omega
    | succ g =>
      simp only [conF]
      by_cases e0 : m = l.length
      · rw [if_pos e0, if_pos e0]
      · rw [if_neg e0, if_neg e0]
        have hs := sp_bd (l := l) (by omega) h3
        by_cases e1 : m ≤ sp l
        · rw [if_pos e1, if_pos e1, ih g (l.take (sp l)) m alone (by rw [List.length_take]; omega) (by rw [List.length_take]; omega) (by rw [List.length_take]; omega) h4 (by rw [List.length_take]; omega)]
        · rw [if_neg e1, if_neg e1, ih g (l.drop (sp l)) (m - sp l) false (by rw [List.length_drop]; omega) (by rw [List.length_drop]; omega) (by rw [List.length_drop]; omega) (by omega) (by rw [List.length_drop]; omega)]
def con (l : List Int) (m : Nat) (alone : Bool) : List Int := conF l.length l m alone
theorem con_all {l : List Int} {m : Nat} {alone : Bool} (h : m = l.length) (h1 : 1 ≤ m) : con l m alone = if alone = true then [] else [root l] := by
  unfold con
  obtain ⟨f, hf⟩ : ∃ f, l.length = f + 1 := ⟨l.length - 1, by omega⟩
  rw [hf]
  simp only [conF]
  rw [if_pos h]
theorem con_left {l : List Int} {m : Nat} {alone : Bool} (h1 : 1 ≤ m) (h : m < l.length) (h2 : l.length ≤ 40) (hm : m ≤ sp l) : con l m alone = con (l.take (sp l)) m alone ++ [root (l.drop (sp l))] := by
  have hs := sp_bd (l := l) (by omega) h2
  obtain ⟨f, hf⟩ : ∃ f, l.length = f + 1 := ⟨l.length - 1, by omega⟩
  unfold con
  rw [hf]
  simp only [conF]
  rw [if_neg (by omega), if_pos hm, conF_same f (l.take (sp l)).length (l.take (sp l)) m alone (by rw [List.length_take]; omega) (Nat.le_refl _) (by rw [List.length_take]; omega) h1 (by rw [List.length_take]; omega)]
theorem con_right {l : List Int} {m : Nat} {alone : Bool} (h1 : 1 ≤ m) (h : m < l.length) (h2 : l.length ≤ 40) (hm : ¬ m ≤ sp l) : con l m alone = con (l.drop (sp l)) (m - sp l) false ++ [root (l.take (sp l))] := by
  have hs := sp_bd (l := l) (by omega) h2
  obtain ⟨f, hf⟩ : ∃ f, l.length = f + 1 := ⟨l.length - 1, by omega⟩
  unfold con
  rw [hf]
  simp only [conF]
  rw [if_neg (by omega), if_neg hm, conF_same f (l.drop (sp l)).length (l.drop (sp l)) (m - sp l) false (by rw [List.length_drop]; omega) (Nat.le_refl _) (by rw [List.length_drop]; omega) (by omega) (by rw [List.length_drop]; omega)]
theorem con_len : ∀ (f : Nat) (l : List Int) (m : Nat) (alone : Bool), l.length ≤ f → l.length ≤ 40 → 1 ≤ m → m ≤ l.length → (con l m alone).length ≤ high l.length + 1 := by
  intro f
  induction f with
  | zero => intro l m alone h1 h2 h3 h4; omega
  | succ f ih =>
    intro l m alone h1 h2 h3 h4
    by_cases e0 : m = l.length
    · rw [con_all e0 h3]; split <;> simp
    · have hs := sp_bd (l := l) (by omega) h2
      have hp := high_part (l := l) (by omega) h2
      by_cases hm : m ≤ sp l
      · have h5 := ih (l.take (sp l)) m alone (by rw [List.length_take]; omega) (by rw [List.length_take]; omega) h3 (by rw [List.length_take]; omega)
        rw [List.length_take, Nat.min_eq_left (by omega)] at h5
        rw [con_left h3 (by omega) h2 hm, List.length_append, List.length_singleton]
        omega
      · have h5 := ih (l.drop (sp l)) (m - sp l) false (by rw [List.length_drop]; omega) (by rw [List.length_drop]; omega) (by omega) (by rw [List.length_drop]; omega)
        rw [List.length_drop] at h5
        rw [con_right h3 (by omega) h2 hm, List.length_append, List.length_singleton]
        omega
theorem con_len7 {l : List Int} {m : Nat} (alone : Bool) (h : l.length ≤ 40) (h1 : 1 ≤ m) (h2 : m ≤ l.length) : (con l m alone).length ≤ 7 :=
  Nat.le_trans (con_len _ l m alone (Nat.le_refl _) h h1 h2) (by have := high_le l.length; omega)
theorem con_ok : ∀ (f : Nat) (l : List Int) (m : Nat) (alone : Bool), l.length ≤ f → l.length ≤ 40 → 1 ≤ m → m ≤ l.length → okAll l = true → okAll (con l m alone) = true := by
  intro f
  induction f with
  | zero => intro l m alone h1 h2 h3 h4; omega
  | succ f ih =>
    intro l m alone h1 h2 h3 h4 h5
    by_cases e0 : m = l.length
    · rw [con_all e0 h3]
      split
      · rfl
      · have := root_ok _ l (Nat.le_refl _) h2 h5
        simp [okAll, this]
    · have hs := sp_bd (l := l) (by omega) h2
      by_cases hm : m ≤ sp l
      · rw [con_left h3 (by omega) h2 hm]
        exact okAll_snoc (ih _ m alone (by rw [List.length_take]; omega) (by rw [List.length_take]; omega) h3 (by rw [List.length_take]; omega) (okAll_take h5 _)) (root_ok _ _ (Nat.le_refl _) (by rw [List.length_drop]; omega) (okAll_drop h5 _))
      · rw [con_right h3 (by omega) h2 hm]
        exact okAll_snoc (ih _ _ false (by rw [List.length_drop]; omega) (by rw [List.length_drop]; omega) (by omega) (by rw [List.length_drop]; omega) (okAll_drop h5 _)) (root_ok _ _ (Nat.le_refl _) (by rw [List.length_take]; omega) (okAll_take h5 _))

/-- both roots that a proof of growth leads to, the proof's last number first -/
def bothR : List Int → Int → Int → Int → Bool → Option (Int × Int)
  | [], m, n, old, alone => if m = n ∧ alone = true then some (old, old) else none
  | p :: rp, m, n, old, alone =>
    if m = n then (if alone = false ∧ rp = [] then some (p, p) else none)
    else if m ≤ split n then (bothR rp m (split n) old alone).map (fun x => (x.1, pair x.2 p))
    else (bothR rp (m - split n) (n - split n) old false).map (fun x => (pair p x.1, pair p x.2))
def both (m n old : Int) (proof : List Int) (alone : Bool) : Option (Int × Int) := bothR proof.reverse m n old alone
theorem both_nil_all {m n old : Int} (h : m = n) : both m n old [] true = some (old, old) := by simp [both, bothR, h]
theorem both_nil_not {m n old : Int} {alone : Bool} (h : ¬ (m = n ∧ alone = true)) : both m n old [] alone = none := by
  simp only [both, List.reverse_nil, bothR]; rw [if_neg h]
theorem both_one {m n old p : Int} (h : m = n) : both m n old [p] false = some (p, p) := by simp [both, bothR, h]
theorem both_all_not {m n old p : Int} {init : List Int} {alone : Bool} (h : m = n) (h2 : ¬ (alone = false ∧ init = [])) : both m n old (init ++ [p]) alone = none := by
  simp only [both, List.reverse_append, List.reverse_cons, List.reverse_nil, List.nil_append, List.singleton_append, bothR]
  rw [if_pos h, if_neg (by simpa using h2)]
theorem both_left {m n old p : Int} {init : List Int} {alone : Bool} (h : ¬ m = n) (hm : m ≤ split n) : both m n old (init ++ [p]) alone = (both m (split n) old init alone).map (fun x => (x.1, pair x.2 p)) := by
  simp only [both, List.reverse_append, List.reverse_cons, List.reverse_nil, List.nil_append, List.singleton_append, bothR]
  rw [if_neg h, if_pos hm]
theorem both_right {m n old p : Int} {init : List Int} {alone : Bool} (h : ¬ m = n) (hm : ¬ m ≤ split n) : both m n old (init ++ [p]) alone = (both (m - split n) (n - split n) old init false).map (fun x => (pair p x.1, pair p x.2)) := by
  simp only [both, List.reverse_append, List.reverse_cons, List.reverse_nil, List.nil_append, List.singleton_append, bothR]
  rw [if_neg h, if_neg hm]
theorem bothR_ok {old : Int} (hl : okB old = true) : ∀ (rp : List Int) (m n : Int) (alone : Bool) (x : Int × Int), okAll rp = true → bothR rp m n old alone = some x → okB x.1 = true ∧ okB x.2 = true := by
  intro rp
  induction rp with
  | nil => intro m n alone x _ h; simp only [bothR] at h; split at h; cases h; exact ⟨hl, hl⟩; cases h
  | cons p rp ih =>
    intro m n alone x hok h
    have hp : okB p = true := by simp [okAll] at hok; exact hok.1
    have hr : okAll rp = true := by simp [okAll] at hok ⊢; exact hok.2
    simp only [bothR] at h
    split at h
    · split at h
      · cases h; exact ⟨hp, hp⟩
      · cases h
    · split at h
      · rw [Option.map_eq_some_iff] at h
        obtain ⟨y, hy, rfl⟩ := h
        exact ⟨(ih _ _ _ _ hr hy).1, pair_ok _ _⟩
      · rw [Option.map_eq_some_iff] at h
        obtain ⟨y, _, rfl⟩ := h
        exact ⟨pair_ok _ _, pair_ok _ _⟩
theorem okAll_reverse {l : List Int} (h : okAll l = true) : okAll l.reverse = true := by
  unfold okAll at *; rw [List.all_eq_true] at *; exact fun x hx => h x (List.mem_reverse.1 hx)
theorem both_ok {old : Int} (hl : okB old = true) {ps : List Int} (hp : okAll ps = true) {m n : Int} {alone : Bool} {x : Int × Int} (h : both m n old ps alone = some x) : okB x.1 = true ∧ okB x.2 = true :=
  bothR_ok hl _ _ _ _ _ (okAll_reverse hp) h

/-- the parting of the first ones, where they reach beyond the first part, is that of all -/
theorem sp_take {l : List Int} {m : Nat} (h2 : l.length ≤ 40) (hm : ¬ m ≤ sp l) (hl : m ≤ l.length) (hl2 : 2 ≤ l.length) : sp (l.take m) = sp l := by
  have hs := sp_bd hl2 h2
  have hsi := sp_int hl2 h2
  have hlen : (l.take m).length = m := by rw [List.length_take]; omega
  have h1 := split_eq (split_pow l.length) (n := (m : Int)) (by omega) (by omega)
  unfold sp
  rw [hlen, ← h1]
theorem root_take {l : List Int} {m : Nat} (h2 : l.length ≤ 40) (hm : ¬ m ≤ sp l) (hl : m ≤ l.length) (hl2 : 2 ≤ l.length) : root (l.take m) = pair (root (l.take (sp l))) (root ((l.drop (sp l)).take (m - sp l))) := by
  have hs := sp_bd hl2 h2
  have hlen : (l.take m).length = m := by rw [List.length_take]; omega
  rw [root_more (by omega) (by omega), sp_take h2 hm hl hl2, List.take_take, Nat.min_eq_left (by omega), List.drop_take]
/-- WHAT HAS GROWN CAN BE SHOWN TO HAVE GROWN -/
theorem both_con : ∀ (f : Nat) (l : List Int) (m : Nat) (alone : Bool) (old : Int), l.length ≤ f → l.length ≤ 40 → 1 ≤ m → m ≤ l.length → (alone = true → old = root (l.take m)) →
    both m l.length old (con l m alone) alone = some (root (l.take m), root l) := by
  intro f
  induction f with
  | zero => intro l m alone old h1 h2 h3 h4; omega
  | succ f ih =>
    intro l m alone old h1 h2 h3 h4 h5
    by_cases e0 : m = l.length
    · rw [con_all e0 h3]
      subst e0
      rw [List.take_length] at h5 ⊢
      cases alone
      · rw [if_neg (by simp), both_one rfl]
      · rw [if_pos rfl, both_nil_all rfl, h5 rfl]
    · have hs := sp_bd (l := l) (by omega) h2
      have hsi := sp_int (l := l) (by omega) h2
      by_cases hm : m ≤ sp l
      · have h6 := ih (l.take (sp l)) m alone old (by rw [List.length_take]; omega) (by rw [List.length_take]; omega) h3 (by rw [List.length_take]; omega) (fun ha => by rw [List.take_take, Nat.min_eq_left hm]; exact h5 ha)
        rw [List.take_take, Nat.min_eq_left hm, List.length_take, Nat.min_eq_left (by omega)] at h6
        rw [con_left h3 (by omega) h2 hm, both_left (by omega) (by omega), hsi, h6, root_more (by omega) h2]
        rfl
      · have h6 := ih (l.drop (sp l)) (m - sp l) false old (by rw [List.length_drop]; omega) (by rw [List.length_drop]; omega) (by omega) (by rw [List.length_drop]; omega) (fun ha => by cases ha)
        rw [List.length_drop] at h6
        rw [con_right h3 (by omega) h2 hm, both_right (by omega) (by omega), hsi]
        rw [show ((m : Int) - (sp l : Int)) = ((m - sp l : Nat) : Int) by omega, show ((l.length : Int) - (sp l : Int)) = ((l.length - sp l : Nat) : Int) by omega, h6, root_more (l := l) (by omega) h2, root_take h2 hm h4 (by omega)]
        rfl
/-- ConProof's answer -/
def conProof (l : List Int) (m : Int) : List Int := if treOk l = true ∧ 1 ≤ m ∧ m ≤ l.length then con l m.toNat true else []
/-- ConCheck's answer -/
def conCheck (m old n root : Int) (ps : List Int) : Bool :=
  if 1 ≤ n ∧ n ≤ 40 ∧ 1 ≤ m ∧ m ≤ n ∧ okB old = true ∧ okB root = true ∧ treOk ps = true then decide (both m n old ps true = some (old, root)) else false
end Go.Proofs.Ytmlbphmbffkdnaa.Tm
namespace Go.Proofs.Ytmlbphmbffkdnaa.Tm

/-- an entry: kind, ticket, who, price -/
abbrev Ent := Int × Int × Int × Int
/-- how a ticket stands: who, face, used -/
abbrev Rw := Int × Int × Bool

def cap (f : Int) : Int := if 1 ≤ f ∧ f ≤ 50 then f + f / 5 else 0
theorem cap_of {f : Int} (h : 1 ≤ f ∧ f ≤ 50) : cap f = f + f / 5 := by unfold cap; rw [if_pos h]
theorem cap_no {f : Int} (h : ¬ (1 ≤ f ∧ f ≤ 50)) : cap f = 0 := by unfold cap; rw [if_neg h]
theorem cap_bd (f : Int) : 0 ≤ cap f ∧ cap f ≤ 60 := by unfold cap; split <;> omega
/-- A cap is a fifth more. -/
theorem cap_law {f : Int} (h : 1 ≤ f ∧ f ≤ 50) : f ≤ cap f ∧ 5 * (cap f - f) ≤ f ∧ f - 5 < 5 * (cap f - f) ∧ (f = 50 ∨ cap f < cap (f + 1)) := by
  by_cases h5 : f = 50
  · subst h5; exact ⟨by decide, by decide, by decide, Or.inl rfl⟩
  · rw [cap_of h, cap_of (f := f + 1) (by omega)]
    omega

def entOk (e : Ent) : Bool :=
  decide (0 ≤ e.2.1 ∧ e.2.1 ≤ 7 ∧ 1 ≤ e.2.2.1 ∧ e.2.2.1 ≤ 5 ∧ ((e.1 = 1 ∧ 1 ≤ e.2.2.2 ∧ e.2.2.2 ≤ 50) ∨ (e.1 = 2 ∧ 1 ≤ e.2.2.2 ∧ e.2.2.2 ≤ 60) ∨ (e.1 = 3 ∧ e.2.2.2 = 0)))
theorem entOk_iff {e : Ent} : entOk e = true ↔ 0 ≤ e.2.1 ∧ e.2.1 ≤ 7 ∧ 1 ≤ e.2.2.1 ∧ e.2.2.1 ≤ 5 ∧ ((e.1 = 1 ∧ 1 ≤ e.2.2.2 ∧ e.2.2.2 ≤ 50) ∨ (e.1 = 2 ∧ 1 ≤ e.2.2.2 ∧ e.2.2.2 ≤ 60) ∨ (e.1 = 3 ∧ e.2.2.2 = 0)) := by
  unfold entOk; rw [decide_eq_true_iff]

def noRow : Rw := (0, 0, false)
def rowOk (r : Rw) : Bool := decide (r = noRow ∨ (1 ≤ r.1 ∧ r.1 ≤ 5 ∧ 1 ≤ r.2.1 ∧ r.2.1 ≤ 50))
theorem rowOk_iff {r : Rw} : rowOk r = true ↔ r = noRow ∨ (1 ≤ r.1 ∧ r.1 ≤ 5 ∧ 1 ≤ r.2.1 ∧ r.2.1 ≤ 50) := by unfold rowOk; rw [decide_eq_true_iff]
def ownOk (rs : List Rw) : Bool := decide (rs.length = 8) && rs.all rowOk
theorem ownOk_iff {rs : List Rw} : ownOk rs = true ↔ rs.length = 8 ∧ ∀ r ∈ rs, rowOk r = true := by
  unfold ownOk; rw [Bool.and_eq_true, decide_eq_true_iff, List.all_eq_true]
def at' (rs : List Rw) (t : Int) : Rw := rs.getD t.toNat noRow
theorem at_mem {rs : List Rw} {t : Int} (h0 : 0 ≤ t) (h : t < rs.length) : at' rs t ∈ rs := by
  unfold at'
  rw [List.getD_eq_getElem?_getD, List.getElem?_eq_getElem (by omega : t.toNat < rs.length)]
  exact List.getElem_mem _
theorem at_ok {rs : List Rw} (h : ownOk rs = true) {t : Int} (h0 : 0 ≤ t) (h7 : t ≤ 7) : rowOk (at' rs t) = true := by
  obtain ⟨h1, h2⟩ := ownOk_iff.1 h
  exact h2 _ (at_mem h0 (by omega))

/-- whether an entry may follow on how its ticket stands -/
def may (r : Rw) (e : Ent) : Bool :=
  decide ((e.1 = 1 ∧ r.1 = 0) ∨ (e.1 = 2 ∧ r.1 ≠ 0 ∧ r.2.2 = false ∧ r.1 ≠ e.2.2.1 ∧ e.2.2.2 ≤ cap r.2.1) ∨ (e.1 = 3 ∧ r.1 = e.2.2.1 ∧ r.2.2 = false))
def fits (rs : List Rw) (e : Ent) : Bool := ownOk rs && entOk e && may (at' rs e.2.1) e
theorem fits_iff {rs : List Rw} {e : Ent} : fits rs e = true ↔ ownOk rs = true ∧ entOk e = true ∧ may (at' rs e.2.1) e = true := by
  unfold fits; rw [Bool.and_eq_true, Bool.and_eq_true, and_assoc]
/-- how its ticket stands behind an entry -/
def turned (r : Rw) (e : Ent) : Rw := if e.1 = 1 then (e.2.2.1, e.2.2.2, false) else if e.1 = 2 then (e.2.2.1, r.2.1, r.2.2) else (r.1, r.2.1, true)
def put (rs : List Rw) (e : Ent) : List Rw := rs.set e.2.1.toNat (turned (at' rs e.2.1) e)
theorem put_len (rs : List Rw) (e : Ent) : (put rs e).length = rs.length := by unfold put; rw [List.length_set]
theorem put_same {rs : List Rw} {e : Ent} (h : fits rs e = true) : at' (put rs e) e.2.1 = turned (at' rs e.2.1) e := by
  obtain ⟨h1, h2, -⟩ := fits_iff.1 h
  have h3 := (ownOk_iff.1 h1).1
  have h4 := entOk_iff.1 h2
  show (rs.set e.2.1.toNat (turned (at' rs e.2.1) e)).getD e.2.1.toNat noRow = _
  rw [List.getD_eq_getElem?_getD, List.getElem?_set_self (by omega)]
  rfl
theorem put_other {rs : List Rw} {e : Ent} {t : Int} (h0 : 0 ≤ t) (he : 0 ≤ e.2.1) (hne : t ≠ e.2.1) : at' (put rs e) t = at' rs t := by
  show (rs.set e.2.1.toNat (turned (at' rs e.2.1) e)).getD t.toNat noRow = rs.getD t.toNat noRow
  rw [List.getD_eq_getElem?_getD, List.getD_eq_getElem?_getD, List.getElem?_set_ne (by omega)]
theorem turned_ok {r : Rw} {e : Ent} (hr : rowOk r = true) (he : entOk e = true) (hm : may r e = true) : rowOk (turned r e) = true := by
  rw [rowOk_iff] at hr ⊢
  rw [entOk_iff] at he
  unfold may at hm
  rw [decide_eq_true_iff] at hm
  right
  unfold turned noRow at *
  rcases hm with ⟨k, h⟩ | ⟨k, h⟩ | ⟨k, h⟩
  · rw [if_pos k]; simp only; omega
  · rw [if_neg (by omega), if_pos k]
    simp only
    rcases hr with hr | hr
    · rw [hr] at h; simp at h
    · omega
  · rw [if_neg (by omega), if_neg (by omega)]
    simp only
    rcases hr with hr | hr
    · rw [hr] at h; simp at h; omega
    · omega
theorem put_ok {rs : List Rw} {e : Ent} (h : fits rs e = true) : ownOk (put rs e) = true := by
  obtain ⟨h1, h2, h3⟩ := fits_iff.1 h
  have h4 := entOk_iff.1 h2
  refine ownOk_iff.2 ⟨by rw [put_len]; exact (ownOk_iff.1 h1).1, fun r hr => ?_⟩
  rcases List.mem_or_eq_of_mem_set hr with h5 | h5
  · exact (ownOk_iff.1 h1).2 r h5
  · subst h5
    exact turned_ok (at_ok h1 (by omega) (by omega)) h2 h3

/-- rows behind entries, one behind the other -/
def foldE : List Ent → List Rw → Option (List Rw)
  | [], rs => some rs
  | e :: l, rs => if fits rs e = true then foldE l (put rs e) else none
def none8 : List Rw := List.replicate 8 noRow
def ownFold (l : List Ent) : Option (List Rw) := if l.length ≤ 40 then foldE l none8 else none
theorem none8_ok : ownOk none8 = true := by decide
theorem foldE_ok : ∀ (l : List Ent) (rs rs' : List Rw), ownOk rs = true → foldE l rs = some rs' → ownOk rs' = true := by
  intro l
  induction l with
  | nil => intro rs rs' h h2; simp only [foldE] at h2; cases h2; exact h
  | cons e l ih =>
    intro rs rs' h h2
    simp only [foldE] at h2
    split at h2
    · rename_i hf; exact ih _ _ (put_ok hf) h2
    · cases h2
theorem foldE_snoc : ∀ (l : List Ent) (e : Ent) (rs : List Rw), foldE (l ++ [e]) rs = (foldE l rs).bind fun x => if fits x e = true then some (put x e) else none := by
  intro l
  induction l with
  | nil => intro e rs; simp only [List.nil_append, foldE]; rfl
  | cons x l ih =>
    intro e rs
    simp only [List.cons_append, foldE]
    split
    · exact ih e _
    · rfl
theorem foldE_take : ∀ (l : List Ent) (k : Nat) (rs rs' : List Rw), foldE l rs = some rs' → ∃ x, foldE (l.take k) rs = some x := by
  intro l
  induction l with
  | nil => intro k rs rs' h; exact ⟨rs, by rw [List.take_nil]; rfl⟩
  | cons e l ih =>
    intro k rs rs' h
    cases k with
    | zero => exact ⟨rs, rfl⟩
    | succ k =>
      simp only [foldE] at h
      split at h
      · rename_i hf
        obtain ⟨x, hx⟩ := ih k _ _ h
        exact ⟨x, by simp only [List.take_succ_cons, foldE]; rw [if_pos hf]; exact hx⟩
      · cases h

/-- the entries about a ticket, in order -/
def about (l : List Ent) (t : Int) : List Ent := l.filter (fun e => decide (e.2.1 = t))
theorem about_snoc_same {l : List Ent} {e : Ent} {t : Int} (h : e.2.1 = t) : about (l ++ [e]) t = about l t ++ [e] := by
  unfold about; rw [List.filter_append]; simp [h]
theorem about_snoc_other {l : List Ent} {e : Ent} {t : Int} (h : e.2.1 ≠ t) : about (l ++ [e]) t = about l t := by
  unfold about; rw [List.filter_append]; simp [h]
theorem about_about (l : List Ent) (t : Int) : about (about l t) t = about l t := by unfold about; rw [List.filter_filter]; simp

/-- what entries about one ticket are like that follow one another, and how the ticket stands behind them -/
structure Once (x : List Ent) (r : Rw) : Prop where
  none : x = [] → r = noRow
  who : ∀ e : Ent, x.getLast? = some e → r.1 = e.2.2.1 ∧ r.1 ≠ 0 ∧ r.2.2 = decide (e.1 = 3)
  face : ∀ e : Ent, x.head? = some e → r.2.1 = e.2.2.2
  first : ∀ (i : Nat) (e : Ent), x[i]? = some e → (i = 0 ↔ e.1 = 1)
  enter : ∀ (i : Nat) (e : Ent), x[i]? = some e → e.1 = 3 → i + 1 = x.length ∧ ∃ d : Ent, x[i - 1]? = some d ∧ e.2.2.1 = d.2.2.1
  pass : ∀ (i : Nat) (e : Ent), x[i]? = some e → e.1 = 2 → (∃ d : Ent, x[i - 1]? = some d ∧ e.2.2.1 ≠ d.2.2.1) ∧ ∀ f : Ent, x.head? = some f → e.2.2.2 ≤ cap f.2.2.2

theorem once_nil : Once [] noRow := ⟨fun _ => rfl, fun e h => by simp at h, fun e h => by simp at h, fun i e h => by simp at h, fun i e h => by simp at h, fun i e h => by simp at h⟩

/-- one more entry about the ticket, which may follow -/
theorem Once.snoc {x : List Ent} {r : Rw} {e : Ent} (h : Once x r) (he : entOk e = true) (hm : may r e = true) : Once (x ++ [e]) (turned r e) := by
  have hk := entOk_iff.1 he
  unfold may at hm
  rw [decide_eq_true_iff] at hm
  by_cases hx : x = []
  · have hr := h.none hx
    subst hx
    have hk1 : e.1 = 1 := by
      rcases hm with m | m | m
      · exact m.1
      · rw [hr] at m; exact absurd rfl m.2.1
      · rw [hr] at m; simp [noRow] at m; omega
    have ht : turned r e = (e.2.2.1, e.2.2.2, false) := by unfold turned; rw [if_pos hk1]
    rw [ht]
    refine ⟨fun h => by simp at h, fun d hd => ?_, fun d hd => ?_, fun i d hd => ?_, fun i d hd h3 => ?_, fun i d hd h2 => ?_⟩
    · simp at hd; subst hd; simp only; refine ⟨trivial, by omega, ?_⟩; simp; omega
    · simp at hd; subst hd; rfl
    · cases i with
      | zero => simp at hd; subst hd; simp [hk1]
      | succ i => simp at hd
    · cases i with
      | zero => simp at hd; subst hd; omega
      | succ i => simp at hd
    · cases i with
      | zero => simp at hd; subst hd; omega
      | succ i => simp at hd
  · obtain ⟨last, hlast⟩ : ∃ d, x.getLast? = some d := by
      cases hl : x.getLast? with
      | none => rw [List.getLast?_eq_none_iff] at hl; exact absurd hl hx
      | some d => exact ⟨d, rfl⟩
    obtain ⟨f, hf⟩ : ∃ d, x.head? = some d := by
      cases x with
      | nil => exact absurd rfl hx
      | cons a b => exact ⟨a, rfl⟩
    have hpos : 0 < x.length := by cases x; exact absurd rfl hx; simp
    have hli : x[x.length - 1]? = some last := by rw [← List.getLast?_eq_getElem?]; exact hlast
    obtain ⟨w1, w2, w3⟩ := h.who last hlast
    have hfc := h.face f hf
    have hk1 : e.1 ≠ 1 := by
      intro k
      rcases hm with m | m | m
      · exact w2 m.2
      · omega
      · omega
    have hu : r.2.2 = false := by
      rcases hm with m | m | m
      · exact absurd m.1 hk1
      · exact m.2.2.1
      · exact m.2.2
    have hl3 : last.1 ≠ 3 := by
      intro k
      rw [w3, decide_eq_false_iff_not] at hu
      exact hu k
    have hhead : (x ++ [e]).head? = some f := by rw [List.head?_append]; simp [hf]
    have hold : ∀ (i : Nat) (d : Ent), (x ++ [e])[i]? = some d → i < x.length → x[i]? = some d := by
      intro i d hd hi
      rwa [List.getElem?_append_left hi] at hd
    have hnew : ∀ (i : Nat) (d : Ent), (x ++ [e])[i]? = some d → ¬ i < x.length → i = x.length ∧ d = e := by
      intro i d hd hi
      rw [List.getElem?_append_right (by omega)] at hd
      have h0 : i - x.length = 0 := by
        rcases Nat.eq_zero_or_pos (i - x.length) with z | z
        · exact z
        · rw [List.getElem?_eq_none (by simp; omega)] at hd; cases hd
      rw [h0] at hd
      simp at hd
      exact ⟨by omega, hd.symm⟩
    have hprev : (x ++ [e])[x.length - 1]? = some last := by rw [List.getElem?_append_left (by omega)]; exact hli
    have hat : ∀ (i : Nat) (d : Ent), x[i]? = some d → (x ++ [e])[i]? = some d := by
      intro i d hd
      have hi : i < x.length := by
        rcases Nat.lt_or_ge i x.length with z | z
        · exact z
        · rw [List.getElem?_eq_none z] at hd; cases hd
      rw [List.getElem?_append_left hi]; exact hd
    refine ⟨fun h => by simp at h, fun d hd => ?_, fun d hd => ?_, fun i d hd => ?_, fun i d hd h3 => ?_, fun i d hd h2 => ?_⟩
    · rw [List.getLast?_append] at hd
      simp at hd
      subst hd
      unfold turned
      rw [if_neg hk1]
      rcases hm with m | m | m
      · exact absurd m.1 hk1
      · rw [if_pos m.1]
        simp only
        refine ⟨trivial, by omega, ?_⟩
        rw [hu]; symm; rw [decide_eq_false_iff_not]; omega
      · rw [if_neg (by omega)]
        simp only
        refine ⟨m.2.1, w2, ?_⟩
        symm; rw [decide_eq_true_iff]; exact m.1
    · rw [hhead] at hd
      cases hd
      unfold turned
      rw [if_neg hk1]
      split <;> exact hfc
    · by_cases hi : i < x.length
      · exact h.first i d (hold i d hd hi)
      · obtain ⟨rfl, rfl⟩ := hnew i d hd hi
        constructor
        · intro z; omega
        · intro z; exact absurd z hk1
    · by_cases hi : i < x.length
      · obtain ⟨z1, z2⟩ := h.enter i d (hold i d hd hi) h3
        have hil : i = x.length - 1 := by omega
        have hd' := hold i d hd hi
        rw [hil, hli] at hd'
        cases hd'
        exact absurd h3 hl3
      · obtain ⟨rfl, rfl⟩ := hnew i d hd hi
        refine ⟨by simp, last, hprev, ?_⟩
        rcases hm with m | m | m
        · omega
        · omega
        · rw [← w1]; exact m.2.1.symm
    · by_cases hi : i < x.length
      · obtain ⟨⟨z, hz, hz2⟩, hz3⟩ := h.pass i d (hold i d hd hi) h2
        exact ⟨⟨z, hat _ _ hz, hz2⟩, fun g hg => by rw [hhead] at hg; cases hg; exact hz3 f hf⟩
      · obtain ⟨rfl, rfl⟩ := hnew i d hd hi
        rcases hm with m | m | m
        · omega
        · refine ⟨⟨last, hprev, ?_⟩, fun g hg => ?_⟩
          · rw [← w1]; exact fun z => m.2.2.2.1 z.symm
          · rw [hhead] at hg; cases hg; rw [← hfc]; exact m.2.2.2.2
        · omega

/-- A TICKET IS ISSUED ONCE, AND ENTERED WITH ONCE -/
theorem once_all : ∀ (l : List Ent) (rs : List Rw), foldE l none8 = some rs → ∀ t : Int, 0 ≤ t → t ≤ 7 → Once (about l t) (at' rs t) := by
  intro l
  -- from behind: one entry more at a time
  have key : ∀ (n : Nat) (l : List Ent) (rs : List Rw), l.length = n → foldE l none8 = some rs → ∀ t : Int, 0 ≤ t → t ≤ 7 → Once (about l t) (at' rs t) := by
    intro n
    induction n with
    | zero =>
      intro l rs hl hf t h0 h7
      have : l = [] := List.eq_nil_of_length_eq_zero hl
      subst this
      simp only [foldE] at hf
      cases hf
      have e : at' none8 t = noRow := by
        obtain rfl | rfl | rfl | rfl | rfl | rfl | rfl | rfl : t = 0 ∨ t = 1 ∨ t = 2 ∨ t = 3 ∨ t = 4 ∨ t = 5 ∨ t = 6 ∨ t = 7 := by omega
        all_goals rfl
      rw [e]
      exact once_nil
    | succ n ih =>
      intro l rs hl hf t h0 h7
      obtain ⟨init, e, rfl⟩ : ∃ init e, l = init ++ [e] := by
        rcases List.eq_nil_or_concat l with h | ⟨init, e, h⟩
        · subst h; simp at hl
        · exact ⟨init, e, by simpa using h⟩
      rw [foldE_snoc, Option.bind_eq_some_iff] at hf
      obtain ⟨x, hx, hif⟩ := hf
      split at hif
      · rename_i hfit
        cases hif
        obtain ⟨f1, f2, f3⟩ := fits_iff.1 hfit
        have hk := entOk_iff.1 f2
        have hi := ih init x (by simpa using hl) hx t h0 h7
        by_cases ht : e.2.1 = t
        · subst ht
          rw [about_snoc_same rfl, put_same hfit]
          exact hi.snoc f2 f3
        · rw [about_snoc_other ht, put_other h0 hk.1 (fun z => ht z.symm)]
          exact hi
      · cases hif
  exact fun rs => key l.length l rs rfl

/-- how many of a list have a number from 0 up to below n: by one number after the other -/
def upto {α : Type} (f : α → Int) (l : List α) : Nat → Nat
  | 0 => 0
  | n + 1 => upto f l n + (l.filter (fun x => decide (f x = (n : Int)))).length
theorem upto_all {α : Type} (f : α → Int) (l : List α) (n : Nat) : upto f l n = (l.filter (fun x => decide (0 ≤ f x ∧ f x < (n : Int)))).length := by
  induction n with
  | zero =>
    simp only [upto]
    symm
    rw [List.length_eq_zero_iff, List.filter_eq_nil_iff]
    intro x _ h
    rw [decide_eq_true_iff] at h
    omega
  | succ n ih =>
    simp only [upto]
    rw [ih]
    clear ih
    induction l with
    | nil => rfl
    | cons x l ih2 =>
      have e1 : decide (0 ≤ f x ∧ f x < ((n + 1 : Nat) : Int)) = (decide (0 ≤ f x ∧ f x < (n : Int)) || decide (f x = (n : Int))) := by
        rw [Bool.eq_iff_iff, Bool.or_eq_true, decide_eq_true_iff, decide_eq_true_iff, decide_eq_true_iff]
        constructor
        · intro h; by_cases h2 : f x = (n : Int)
          · exact Or.inr h2
          · exact Or.inl (by omega)
        · intro h; rcases h with h | h <;> omega
      rw [List.filter_cons, List.filter_cons, List.filter_cons, e1]
      generalize l.filter (fun x => decide (0 ≤ f x ∧ f x < (n : Int))) = p at *
      generalize l.filter (fun x => decide (f x = (n : Int))) = q at *
      generalize l.filter (fun x => decide (0 ≤ f x ∧ f x < ((n + 1 : Nat) : Int))) = u at *
      by_cases h1 : 0 ≤ f x ∧ f x < (n : Int)
      · have h2 : ¬ f x = (n : Int) := by omega
        rw [decide_eq_true h1, decide_eq_false h2]
        simp only [Bool.or_false, if_true, Bool.false_eq_true, if_false, List.length_cons]
        omega
      · rw [decide_eq_false h1]
        by_cases h2 : f x = (n : Int)
        · rw [decide_eq_true h2]
          simp only [Bool.or_true, if_true, Bool.false_eq_true, if_false, List.length_cons]
          omega
        · rw [decide_eq_false h2]
          simp only [Bool.or_false, Bool.false_eq_true, if_false]
          omega
/-- of rows that are ok each is somebody's, or nobody's -/
theorem own_sum {rs : List Rw} (h : ownOk rs = true) : upto (fun r : Rw => r.1) rs 6 = 8 := by
  obtain ⟨h1, h2⟩ := ownOk_iff.1 h
  rw [upto_all, ← h1]
  congr 1
  rw [List.filter_eq_self]
  intro r hr
  rw [decide_eq_true_iff]
  rcases rowOk_iff.1 (h2 r hr) with h3 | h3
  · rw [h3]; decide
  · omega
/-- the entries about each ticket are together those about one that there is -/
theorem about_sum (l : List Ent) : upto (fun e : Ent => e.2.1) l 8 = (l.filter (fun e => decide (0 ≤ e.2.1 ∧ e.2.1 < 8))).length := upto_all _ l 8
end Go.Proofs.Ytmlbphmbffkdnaa.Tm
namespace Go.Proofs.Ytmlbphmbffkdnaa.Tm

def monOk (p : List Int) : Bool := decide (p.length = 5) && p.all (fun x => decide (0 ≤ x ∧ x ≤ 100000))
theorem monOk_iff {p : List Int} : monOk p = true ↔ p.length = 5 ∧ ∀ x ∈ p, 0 ≤ x ∧ x ≤ 100000 := by
  unfold monOk; rw [Bool.and_eq_true, decide_eq_true_iff, List.all_eq_true]
  exact ⟨fun h => ⟨h.1, fun x hx => by simpa using h.2 x hx⟩, fun h => ⟨h.1, fun x hx => by simpa using h.2 x hx⟩⟩
theorem monOk_len {p : List Int} (h : p.length ≠ 5) : monOk p = false := by rw [← Bool.not_eq_true, monOk_iff]; exact fun e => h e.1
theorem monOk_at {p : List Int} {k : Nat} (hk : k < p.length) (h : ¬ (0 ≤ p.getD k 0 ∧ p.getD k 0 ≤ 100000)) : monOk p = false := by
  rw [← Bool.not_eq_true, monOk_iff]; intro e
  refine h (e.2 _ ?_)
  simp [List.getD, List.getElem?_eq_getElem hk]
theorem monOk_all {p : List Int} (hl : p.length = 5) (h : ∀ j, j < p.length → 0 ≤ p.getD j 0 ∧ p.getD j 0 ≤ 100000) : monOk p = true := by
  rw [monOk_iff]
  refine ⟨hl, fun x hx => ?_⟩
  obtain ⟨j, hj, rfl⟩ := List.getElem_of_mem hx
  have := h j hj
  simpa [List.getD, List.getElem?_eq_getElem hj] using this
theorem monOk_get {p : List Int} (h : monOk p = true) {j : Nat} (hj : j < 5) : 0 ≤ p.getD j 0 ∧ p.getD j 0 ≤ 100000 := by
  rw [monOk_iff] at h
  refine h.2 _ ?_
  have : j < p.length := by omega
  simp [List.getD, List.getElem?_eq_getElem this]
/-- what somebody has -/
def has (p : List Int) (u : Int) : Int := p.getD (u - 1).toNat 0
theorem has_nat (p : List Int) (j : Nat) : has p ((j : Int) + 1) = p.getD j 0 := by
  unfold has
  rw [show ((j : Int) + 1 - 1).toNat = j by omega]
def monHas (p : List Int) (u : Int) : Int := if monOk p = true ∧ 1 ≤ u ∧ u ≤ 5 then has p u else 0
theorem monHas_of {p : List Int} {u : Int} (h : monOk p = true) (hu : 1 ≤ u ∧ u ≤ 5) : monHas p u = has p u := by unfold monHas; rw [if_pos ⟨h, hu⟩]
theorem monHas_no {p : List Int} {u : Int} (h : ¬ (monOk p = true ∧ 1 ≤ u ∧ u ≤ 5)) : monHas p u = 0 := by unfold monHas; rw [if_neg h]
def turnOk (p : List Int) (u n : Int) : Bool := decide (monOk p = true ∧ (1 ≤ u ∧ u ≤ 5) ∧ (-100000 ≤ n ∧ n ≤ 100000) ∧ 0 ≤ has p u + n ∧ has p u + n ≤ 100000)
theorem turnOk_iff {p : List Int} {u n : Int} : turnOk p u n = true ↔ monOk p = true ∧ (1 ≤ u ∧ u ≤ 5) ∧ (-100000 ≤ n ∧ n ≤ 100000) ∧ 0 ≤ has p u + n ∧ has p u + n ≤ 100000 := by unfold turnOk; rw [decide_eq_true_iff]
theorem turnOk_no {p : List Int} {u n : Int} (h : ¬ (monOk p = true ∧ (1 ≤ u ∧ u ≤ 5) ∧ (-100000 ≤ n ∧ n ≤ 100000) ∧ 0 ≤ has p u + n ∧ has p u + n ≤ 100000)) : turnOk p u n = false := by unfold turnOk; rw [decide_eq_false_iff_not]; exact h
def turnSet (p : List Int) (u n : Int) : List Int := p.set (u - 1).toNat (has p u + n)
def monTurn (p : List Int) (u n : Int) : List Int := if turnOk p u n = true then turnSet p u n else p
theorem monTurn_of {p : List Int} {u n : Int} (h : turnOk p u n = true) : monTurn p u n = turnSet p u n := by unfold monTurn; rw [if_pos h]
theorem monTurn_no {p : List Int} {u n : Int} (h : turnOk p u n = false) : monTurn p u n = p := by unfold monTurn; rw [if_neg (by simp [h])]
theorem turnSet_len (p : List Int) (u n : Int) : (turnSet p u n).length = p.length := by unfold turnSet; rw [List.length_set]
theorem monTurn_len (p : List Int) (u n : Int) : (monTurn p u n).length = p.length := by unfold monTurn; split; exact turnSet_len p u n; rfl
theorem getD_set {p : List Int} {j k : Nat} {x : Int} (hj : j < p.length) : (p.set j x).getD k 0 = if k = j then x else p.getD k 0 := by
  by_cases e : k = j
  · subst e; rw [if_pos rfl]; simp [List.getD, hj]
  · rw [if_neg e]; simp [List.getD, Ne.symm e]
theorem has_turnSet {p : List Int} {u v n : Int} (hl : p.length = 5) (hu : 1 ≤ u ∧ u ≤ 5) (hv : 1 ≤ v ∧ v ≤ 5) : has (turnSet p u n) v = if v = u then has p u + n else has p v := by
  unfold turnSet
  have h1 : (u - 1).toNat < p.length := by omega
  show (p.set _ _).getD (v - 1).toNat 0 = _
  rw [getD_set h1]
  by_cases e : v = u
  · subst e; rw [if_pos rfl, if_pos rfl]
  · rw [if_neg (by omega), if_neg e]; rfl
theorem turnSet_ok {p : List Int} {u n : Int} (h : turnOk p u n = true) : monOk (turnSet p u n) = true := by
  rw [turnOk_iff] at h
  obtain ⟨h1, h2, h3, h4⟩ := h
  have hl := (monOk_iff.1 h1).1
  refine monOk_all (by rw [turnSet_len]; exact hl) (fun j hj => ?_)
  rw [turnSet_len] at hj
  unfold turnSet
  rw [getD_set (by omega)]
  split
  · exact h4
  · exact monOk_get h1 (by omega)
def moveOk (p : List Int) (a b n : Int) : Bool := decide ((0 ≤ n ∧ n ≤ 100000) ∧ a ≠ b ∧ turnOk p a (-n) = true ∧ turnOk (turnSet p a (-n)) b n = true)
theorem moveOk_iff {p : List Int} {a b n : Int} : moveOk p a b n = true ↔ (0 ≤ n ∧ n ≤ 100000) ∧ a ≠ b ∧ turnOk p a (-n) = true ∧ turnOk (turnSet p a (-n)) b n = true := by unfold moveOk; rw [decide_eq_true_iff]
theorem moveOk_no {p : List Int} {a b n : Int} (h : ¬ ((0 ≤ n ∧ n ≤ 100000) ∧ a ≠ b ∧ turnOk p a (-n) = true ∧ turnOk (turnSet p a (-n)) b n = true)) : moveOk p a b n = false := by unfold moveOk; rw [decide_eq_false_iff_not]; exact h
def monMove (p : List Int) (a b n : Int) : List Int := if moveOk p a b n = true then turnSet (turnSet p a (-n)) b n else p
theorem monMove_of {p : List Int} {a b n : Int} (h : moveOk p a b n = true) : monMove p a b n = turnSet (turnSet p a (-n)) b n := by unfold monMove; rw [if_pos h]
theorem monMove_no {p : List Int} {a b n : Int} (h : moveOk p a b n = false) : monMove p a b n = p := by unfold monMove; rw [if_neg (by simp [h])]
theorem monMove_len (p : List Int) (a b n : Int) : (monMove p a b n).length = p.length := by unfold monMove; split; rw [turnSet_len, turnSet_len]; rfl
/-- a move is ok just if both turns are: how much is looked at by these -/
theorem moveOk_eq {p : List Int} {a b n : Int} : moveOk p a b n = decide (0 ≤ n ∧ a ≠ b ∧ turnOk p a (-n) = true ∧ turnOk (turnSet p a (-n)) b n = true) := by
  rw [Bool.eq_iff_iff, moveOk_iff, decide_eq_true_iff]
  constructor
  · intro h; exact ⟨h.1.1, h.2⟩
  · intro h
    have := turnOk_iff.1 h.2.2.1
    exact ⟨⟨h.1, by omega⟩, h.2⟩
end Go.Proofs.Ytmlbphmbffkdnaa.Tm
