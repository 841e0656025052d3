namespace Go.Proofs.Ytjdnengmllamcaa.Tm

/-- whether a number is a mixed one -/
def okB (n : Int) : Bool := decide (0 ≤ n) && decide (n < 65521)
theorem okB_iff (n : Int) : okB n = true ↔ 0 ≤ n ∧ n < 65521 := by simp [okB]
theorem okB_no (n : Int) : okB n = false ↔ ¬ (0 ≤ n ∧ n < 65521) := by rw [← okB_iff]; simp

def pairRaw (a b : Int) : Int := (a * 8191 + b * 127 + a * b + 31) % 65521
def pair (a b : Int) : Int := if okB a = true ∧ okB b = true then pairRaw a b else 0

theorem pairRaw_bd (a b : Int) : 0 ≤ pairRaw a b ∧ pairRaw a b < 65521 := by unfold pairRaw; omega
theorem pair_bd (a b : Int) : 0 ≤ pair a b ∧ pair a b < 65521 := by
  unfold pair; split
  · exact pairRaw_bd a b
  · omega
theorem pair_ok (a b : Int) : okB (pair a b) = true := (okB_iff _).2 (pair_bd a b)
theorem pair_of {a b : Int} (ha : okB a = true) (hb : okB b = true) : pair a b = pairRaw a b := by unfold pair; rw [if_pos ⟨ha, hb⟩]
theorem pair_no {a b : Int} (h : ¬ (okB a = true ∧ okB b = true)) : pair a b = 0 := by unfold pair; rw [if_neg h]
theorem pairRaw_spec (a b : Int) : (a * 8191 + b * 127 + a * b % 65521 + 31) % 65521 = pairRaw a b := by unfold pairRaw; omega

/-- bounds of products of two mixed numbers -/
theorem mul_bd {a b : Int} (ha : 0 ≤ a ∧ a < 65521) (hb : 0 ≤ b ∧ b < 65521) : 0 ≤ a * b ∧ a * b ≤ 4292870400 := by
  refine ⟨Int.mul_nonneg ha.1 hb.1, ?_⟩
  have h1 : a * b ≤ 65520 * b := Int.mul_le_mul_of_nonneg_right (by omega) hb.1
  have h2 : 65520 * b ≤ 65520 * 65520 := Int.mul_le_mul_of_nonneg_left (by omega) (by omega)
  omega

/-! ### 65521 is a prime -/
theorem small_no : ∀ d : Nat, d < 256 → 2 ≤ d → 65521 % d ≠ 0 := by decide +kernel
theorem div_of {d : Nat} (h : d ∣ 65521) : d = 1 ∨ d = 65521 := by
  obtain ⟨e, he⟩ := h
  have key : ∀ x y : Nat, 65521 = x * y → x ≤ y → x = 1 := by
    intro x y hxy hle
    have hx : x < 256 := by
      rcases Nat.lt_or_ge x 256 with h | h
      · exact h
      · have : 256 * 256 ≤ x * y := Nat.mul_le_mul h (by omega)
        omega
    rcases Nat.lt_or_ge x 2 with h | h
    · rcases Nat.lt_or_ge x 1 with h0 | h0
      · have : x = 0 := by omega
        subst this; omega
      · omega
    · exfalso
      exact small_no x hx h (by rw [hxy]; exact Nat.mul_mod_right x y)
  rcases Nat.le_total d e with h | h
  · exact Or.inl (key d e he h)
  · right
    have h1 := key e d (by rw [he, Nat.mul_comm]) h
    subst h1; omega
theorem prime_nat {a b : Nat} (h : 65521 ∣ a * b) : 65521 ∣ a ∨ 65521 ∣ b := by
  rcases div_of (Nat.gcd_dvd_left 65521 a) with h1 | h1
  · exact Or.inr (Nat.Coprime.dvd_of_dvd_mul_left (Nat.coprime_iff_gcd_eq_one.2 h1) h)
  · left; rw [← h1]; exact Nat.gcd_dvd_right 65521 a
theorem prime_int {a b : Int} (h : (65521 : Int) ∣ a * b) : (65521 : Int) ∣ a ∨ (65521 : Int) ∣ b := by
  have h1 : (65521 : Nat) ∣ a.natAbs * b.natAbs := by
    have := Int.natAbs_dvd_natAbs.2 h
    rwa [Int.natAbs_mul] at this
  rcases prime_nat h1 with h2 | h2
  · left; exact Int.natAbs_dvd_natAbs.1 (by simpa using h2)
  · right; exact Int.natAbs_dvd_natAbs.1 (by simpa using h2)

/-- two on the left that mix with one on the right to the same are one -/
theorem pairRaw_left {a c b : Int} (ha : 0 ≤ a ∧ a < 65521) (hc : 0 ≤ c ∧ c < 65521) (hb : 0 ≤ b ∧ b < 65521) (hn : b ≠ 57330) (h : pairRaw c b = pairRaw a b) : c = a := by
  unfold pairRaw at h
  have h1 : (65521 : Int) ∣ (c - a) * (8191 + b) := by
    have e : (c - a) * (8191 + b) = (c * 8191 + b * 127 + c * b + 31) - (a * 8191 + b * 127 + a * b + 31) := by
      rw [Int.sub_mul, Int.mul_add, Int.mul_add]; omega
    rw [e]; omega
  rcases prime_int h1 with h2 | h2 <;> omega
theorem pairRaw_right {a b c : Int} (ha : 0 ≤ a ∧ a < 65521) (hb : 0 ≤ b ∧ b < 65521) (hc : 0 ≤ c ∧ c < 65521) (hn : a ≠ 65394) (h : pairRaw a c = pairRaw a b) : c = b := by
  unfold pairRaw at h
  have h1 : (65521 : Int) ∣ (c - b) * (127 + a) := by
    have e : (c - b) * (127 + a) = (a * 8191 + c * 127 + a * c + 31) - (a * 8191 + b * 127 + a * b + 31) := by
      rw [Int.sub_mul, Int.mul_add, Int.mul_add, Int.mul_comm c a, Int.mul_comm b a]; omega
    rw [e]; omega
  rcases prime_int h1 with h2 | h2 <;> omega

/-! ### leaves -/
def leafStep (m n : Int) : Int := (m * 4099 + n % 65521 + 11) % 65521
def leafTo (l : List Int) (m : Int) : Int := l.foldl leafStep m
def leaf (l : List Int) : Int := (leafTo l 7 * 31 + l.length) % 65521
theorem leafStep_bd (m n : Int) : 0 ≤ leafStep m n ∧ leafStep m n < 65521 := by unfold leafStep; omega
theorem leafTo_bd (l : List Int) (m : Int) (h : 0 ≤ m ∧ m < 65521) : 0 ≤ leafTo l m ∧ leafTo l m < 65521 := by
  induction l generalizing m with
  | nil => exact h
  | cons x r ih => exact ih _ (leafStep_bd m x)
theorem leafTo_snoc (l : List Int) (x m : Int) : leafTo (l ++ [x]) m = leafStep (leafTo l m) x := by simp [leafTo]
theorem leaf_bd (l : List Int) : 0 ≤ leaf l ∧ leaf l < 65521 := by unfold leaf; omega
theorem leaf_ok (l : List Int) : okB (leaf l) = true := (okB_iff _).2 (leaf_bd l)
theorem leaf_last (l : List Int) (x y : Int) (h : y = x + 1 ∨ y = x - 1) : leaf (l ++ [y]) ≠ leaf (l ++ [x]) := by
  unfold leaf
  rw [leafTo_snoc, leafTo_snoc]
  have b := leafTo_bd l 7 (by omega)
  generalize leafTo l 7 = m at *
  simp only [List.length_append, List.length_cons, List.length_nil]
  generalize ((l.length + (0 + 1) : Nat) : Int) = len
  unfold leafStep
  omega
theorem take_snoc (l : List Int) (k : Nat) (h : k < l.length) : l.take (k + 1) = l.take k ++ [l.getD k 0] := by
  rw [List.take_succ_eq_append_getElem h]; simp [List.getD, List.getElem?_eq_getElem h]
theorem leafTo_take (l : List Int) (k : Nat) (m : Int) (h : k < l.length) : leafTo (l.take (k + 1)) m = leafStep (leafTo (l.take k) m) (l.getD k 0) := by
  rw [take_snoc l k h, leafTo_snoc]

/-! ### trees -/
def okAll (l : List Int) : Bool := l.all okB
def treOk (l : List Int) : Bool := decide (l.length ≤ 40) && okAll l
def split (n : Int) : Int := if n ≤ 2 then 1 else if n ≤ 4 then 2 else if n ≤ 8 then 4 else if n ≤ 16 then 8 else if n ≤ 32 then 16 else 32
def treSplit (n : Int) : Int := if n < 2 ∨ 40 < n then 0 else split n
theorem split_bd {n : Int} (h : 2 ≤ n) (h2 : n ≤ 40) : 1 ≤ split n ∧ split n < n ∧ n ≤ 2 * split n := by
  unfold split; repeat' split
  all_goals omega
theorem treSplit_of {n : Int} (h : 2 ≤ n) (h2 : n ≤ 40) : treSplit n = split n := by unfold treSplit; rw [if_neg (by omega)]
theorem treSplit_no {n : Int} (h : n < 2 ∨ 40 < n) : treSplit n = 0 := by unfold treSplit; rw [if_pos h]
end Go.Proofs.Ytjdnengmllamcaa.Tm
namespace Go.Proofs.Ytjdnengmllamcaa.Tm
theorem split_eq {n k : Int} (h1 : k = 1 ∨ k = 2 ∨ k = 4 ∨ k = 8 ∨ k = 16 ∨ k = 32) (h2 : k < n) (h3 : n ≤ 2 * k) : k = split n := by
  unfold split; repeat' split
  all_goals omega
theorem getD_eq {l : List Int} {k : Nat} (h : k < l.length) : l.getD k 0 = l[k] := by simp [List.getD, List.getElem?_eq_getElem h]
theorem okAll_no {l : List Int} {k : Nat} (h : k < l.length) (hk : okB (l.getD k 0) = false) : okAll l = false := by
  rw [getD_eq h] at hk
  unfold okAll
  rw [List.all_eq_false]
  exact ⟨l[k], List.getElem_mem h, by simp [hk]⟩
theorem okAll_yes {l : List Int} (h : ∀ k, k < l.length → okB (l.getD k 0) = true) : okAll l = true := by
  unfold okAll
  rw [List.all_eq_true]
  intro x hx
  obtain ⟨k, hk, rfl⟩ := List.getElem_of_mem hx
  have := h k hk
  rwa [getD_eq hk] at this
theorem okAll_at {l : List Int} (h : okAll l = true) {k : Nat} (hk : k < l.length) : okB (l.getD k 0) = true := by
  unfold okAll at h
  rw [List.all_eq_true] at h
  rw [getD_eq hk]
  exact h _ (List.getElem_mem hk)
theorem ne_of_at {l r : List Int} {k : Nat} (hk : ¬ l.getD k 0 = r.getD k 0) : decide (l = r) = false := by
  rw [decide_eq_false_iff_not]; intro h; exact hk (by rw [h])
theorem eq_of_at {l r : List Int} (hl : l.length = r.length) (h : ∀ k, k < l.length → l.getD k 0 = r.getD k 0) : decide (l = r) = true := by
  rw [decide_eq_true_iff]
  apply List.ext_getElem hl
  intro k h1 h2
  have := h k h1
  rwa [getD_eq h1, getD_eq h2] at this
theorem ne_of_len {l r : List Int} (hl : ¬ l.length = r.length) : decide (l = r) = false := by
  rw [decide_eq_false_iff_not]; intro h; exact hl (by rw [h])
end Go.Proofs.Ytjdnengmllamcaa.Tm
namespace Go.Proofs.Ytjdnengmllamcaa.Tm
theorem split_pow (n : Int) : split n = 1 ∨ split n = 2 ∨ split n = 4 ∨ split n = 8 ∨ split n = 16 ∨ split n = 32 := by
  unfold split; repeat' split
  all_goals omega
end Go.Proofs.Ytjdnengmllamcaa.Tm
