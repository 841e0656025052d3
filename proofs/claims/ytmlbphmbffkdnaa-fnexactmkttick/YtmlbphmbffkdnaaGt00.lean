/-
  Texts of the proof, what it needs of them: Math.
-/
namespace Go.Proofs.Ytmlbphmbffkdnaa.Tm

/-- whether a number is a mixed one -/
def okB (n : Int) : Bool := decide (0 ≤ n) && decide (n < 65521)
def pairRaw (a b : Int) : Int := (a * 8191 + b * 127 + a * b + 31) % 65521
def pair (a b : Int) : Int := if okB a = true ∧ okB b = true then pairRaw a b else 0

/-! ### 65521 is a prime -/
/-! ### leaves -/
def leafStep (m n : Int) : Int := (m * 4099 + n % 65521 + 11) % 65521
def leafTo (l : List Int) (m : Int) : Int := l.foldl leafStep m
def leaf (l : List Int) : Int := (leafTo l 7 * 31 + l.length) % 65521
theorem take_snoc (l : List Int) (k : Nat) (h : k < l.length) : l.take (k + 1) = l.take k ++ [l.getD k 0] := by
  rw [List.take_succ_eq_append_getElem h]; simp [List.getD, List.getElem?_eq_getElem h]
/-! ### trees -/
def okAll (l : List Int) : Bool := l.all okB
def treOk (l : List Int) : Bool := decide (l.length ≤ 40) && okAll l
def split (n : Int) : Int := if n ≤ 2 then 1 else if n ≤ 4 then 2 else if n ≤ 8 then 4 else if n ≤ 16 then 8 else if n ≤ 32 then 16 else 32
end Go.Proofs.Ytmlbphmbffkdnaa.Tm
namespace Go.Proofs.Ytmlbphmbffkdnaa.Tm
theorem getD_eq {l : List Int} {k : Nat} (h : k < l.length) : l.getD k 0 = l[k] := by simp [List.getD, List.getElem?_eq_getElem h]
theorem ne_of_at {l r : List Int} {k : Nat} (hk : ¬ l.getD k 0 = r.getD k 0) : decide (l = r) = false := by
  rw [decide_eq_false_iff_not]; intro h; exact hk (by rw [h])
theorem eq_of_at {l r : List Int} (hl : l.length = r.length) (h : ∀ k, k < l.length → l.getD k 0 = r.getD k 0) : decide (l = r) = true := by
  rw [decide_eq_true_iff]
  apply List.ext_getElem hl
  intro k h1 h2
  have := h k h1
  rwa [getD_eq h1, getD_eq h2] at this
theorem ne_of_len {l r : List Int} (hl : ¬ l.length = r.length) : decide (l = r) = false := by
  rw [decide_eq_false_iff_not]; intro h; exact hl (by rw [h])
end Go.Proofs.Ytmlbphmbffkdnaa.Tm
namespace Go.Proofs.Ytmlbphmbffkdnaa.Tm
end Go.Proofs.Ytmlbphmbffkdnaa.Tm
namespace Go.Proofs.Ytmlbphmbffkdnaa.Tm

/-- what a leaf leads to, the proof's last number first -/
def upR : List Int → Int → Int → Int → Option Int
  | [], n, _, leaf => if n < 2 then some leaf else none
  | p :: rp, n, i, leaf => if n < 2 then none else if i < split n then (upR rp (split n) i leaf).map (fun x => pair x p) else (upR rp (n - split n) (i - split n) leaf).map (fun x => pair p x)
def up (n i leaf : Int) (proof : List Int) : Option Int := upR proof.reverse n i leaf

end Go.Proofs.Ytmlbphmbffkdnaa.Tm
namespace Go.Proofs.Ytmlbphmbffkdnaa.Tm

/-- where a list is parted -/
def sp (l : List Int) : Nat := (split l.length).toNat
def rootF : Nat → List Int → Int
  | 0, _ => 5
  | f + 1, l => if l.length = 0 then 5 else if l.length = 1 then l.getD 0 0 else pair (rootF f (l.take (sp l))) (rootF f (l.drop (sp l)))
def root (l : List Int) : Int := rootF l.length l
def treRoot (l : List Int) : Int := if treOk l = true then root l else 0
end Go.Proofs.Ytmlbphmbffkdnaa.Tm
namespace Go.Proofs.Ytmlbphmbffkdnaa.Tm

end Go.Proofs.Ytmlbphmbffkdnaa.Tm
namespace Go.Proofs.Ytmlbphmbffkdnaa.Tm

/-- both roots that a proof of growth leads to, the proof's last number first -/
def bothR : List Int → Int → Int → Int → Bool → Option (Int × Int)
  | [], m, n, old, alone => if m = n ∧ alone = true then some (old, old) else none
  | p :: rp, m, n, old, alone =>
    if m = n then (if alone = false ∧ rp = [] then some (p, p) else none)
    else if m ≤ split n then (bothR rp m (split n) old alone).map (fun x => (x.1, pair x.2 p))
    else (bothR rp (m - split n) (n - split n) old false).map (fun x => (pair p x.1, pair p x.2))
def both (m n old : Int) (proof : List Int) (alone : Bool) : Option (Int × Int) := bothR proof.reverse m n old alone
end Go.Proofs.Ytmlbphmbffkdnaa.Tm
namespace Go.Proofs.Ytmlbphmbffkdnaa.Tm

/-- an entry: kind, ticket, who, price -/
abbrev Ent := Int × Int × Int × Int
/-- how a ticket stands: who, face, used -/
abbrev Rw := Int × Int × Bool

def cap (f : Int) : Int := if 1 ≤ f ∧ f ≤ 50 then f + f / 5 else 0
theorem cap_of {f : Int} (h : 1 ≤ f ∧ f ≤ 50) : cap f = f + f / 5 := by unfold cap; rw [if_pos h]
theorem cap_no {f : Int} (h : ¬ (1 ≤ f ∧ f ≤ 50)) : cap f = 0 := by unfold cap; rw [if_neg h]
theorem cap_bd (f : Int) : 0 ≤ cap f ∧ cap f ≤ 60 := by unfold cap; split <;> omega
def entOk (e : Ent) : Bool :=
  decide (0 ≤ e.2.1 ∧ e.2.1 ≤ 7 ∧ 1 ≤ e.2.2.1 ∧ e.2.2.1 ≤ 5 ∧ ((e.1 = 1 ∧ 1 ≤ e.2.2.2 ∧ e.2.2.2 ≤ 50) ∨ (e.1 = 2 ∧ 1 ≤ e.2.2.2 ∧ e.2.2.2 ≤ 60) ∨ (e.1 = 3 ∧ e.2.2.2 = 0)))
theorem entOk_iff {e : Ent} : entOk e = true ↔ 0 ≤ e.2.1 ∧ e.2.1 ≤ 7 ∧ 1 ≤ e.2.2.1 ∧ e.2.2.1 ≤ 5 ∧ ((e.1 = 1 ∧ 1 ≤ e.2.2.2 ∧ e.2.2.2 ≤ 50) ∨ (e.1 = 2 ∧ 1 ≤ e.2.2.2 ∧ e.2.2.2 ≤ 60) ∨ (e.1 = 3 ∧ e.2.2.2 = 0)) := by
  unfold entOk; rw [decide_eq_true_iff]

def noRow : Rw := (0, 0, false)
def rowOk (r : Rw) : Bool := decide (r = noRow ∨ (1 ≤ r.1 ∧ r.1 ≤ 5 ∧ 1 ≤ r.2.1 ∧ r.2.1 ≤ 50))
theorem rowOk_iff {r : Rw} : rowOk r = true ↔ r = noRow ∨ (1 ≤ r.1 ∧ r.1 ≤ 5 ∧ 1 ≤ r.2.1 ∧ r.2.1 ≤ 50) := by unfold rowOk; rw [decide_eq_true_iff]
def ownOk (rs : List Rw) : Bool := decide (rs.length = 8) && rs.all rowOk
theorem ownOk_iff {rs : List Rw} : ownOk rs = true ↔ rs.length = 8 ∧ ∀ r ∈ rs, rowOk r = true := by
  unfold ownOk; rw [Bool.and_eq_true, decide_eq_true_iff, List.all_eq_true]
def at' (rs : List Rw) (t : Int) : Rw := rs.getD t.toNat noRow
theorem at_mem {rs : List Rw} {t : Int} (h0 : 0 ≤ t) (h : t < rs.length) : at' rs t ∈ rs := by
  unfold at'
  rw [List.getD_eq_getElem?_getD, List.getElem?_eq_getElem (by omega : t.toNat < rs.length)]
  exact List.getElem_mem _
theorem at_ok {rs : List Rw} (h : ownOk rs = true) {t : Int} (h0 : 0 ≤ t) (h7 : t ≤ 7) : rowOk (at' rs t) = true := by
  obtain ⟨h1, h2⟩ := ownOk_iff.1 h
  exact h2 _ (at_mem h0 (by omega))

/-- whether an entry may follow on how its ticket stands -/
def may (r : Rw) (e : Ent) : Bool :=
  decide ((e.1 = 1 ∧ r.1 = 0) ∨ (e.1 = 2 ∧ r.1 ≠ 0 ∧ r.2.2 = false ∧ r.1 ≠ e.2.2.1 ∧ e.2.2.2 ≤ cap r.2.1) ∨ (e.1 = 3 ∧ r.1 = e.2.2.1 ∧ r.2.2 = false))
def fits (rs : List Rw) (e : Ent) : Bool := ownOk rs && entOk e && may (at' rs e.2.1) e
theorem fits_iff {rs : List Rw} {e : Ent} : fits rs e = true ↔ ownOk rs = true ∧ entOk e = true ∧ may (at' rs e.2.1) e = true := by
  unfold fits; rw [Bool.and_eq_true, Bool.and_eq_true, and_assoc]
/-- how its ticket stands behind an entry -/
def turned (r : Rw) (e : Ent) : Rw := if e.1 = 1 then (e.2.2.1, e.2.2.2, false) else if e.1 = 2 then (e.2.2.1, r.2.1, r.2.2) else (r.1, r.2.1, true)
def put (rs : List Rw) (e : Ent) : List Rw := rs.set e.2.1.toNat (turned (at' rs e.2.1) e)
theorem put_len (rs : List Rw) (e : Ent) : (put rs e).length = rs.length := by unfold put; rw [List.length_set]
theorem turned_ok {r : Rw} {e : Ent} (hr : rowOk r = true) (he : entOk e = true) (hm : may r e = true) : rowOk (turned r e) = true := by
  rw [rowOk_iff] at hr ⊢
  rw [entOk_iff] at he
  unfold may at hm
  rw [decide_eq_true_iff] at hm
  right
  unfold turned noRow at *
  rcases hm with ⟨k, h⟩ | ⟨k, h⟩ | ⟨k, h⟩
  · rw [if_pos k]; simp only; omega
  · rw [if_neg (by omega), if_pos k]
    simp only
    rcases hr with hr | hr
    · rw [hr] at h; simp at h
    · omega
  · rw [if_neg (by omega), if_neg (by omega)]
    simp only
    rcases hr with hr | hr
    · rw [hr] at h; simp at h; omega
    · omega
theorem put_ok {rs : List Rw} {e : Ent} (h : fits rs e = true) : ownOk (put rs e) = true := by
  obtain ⟨h1, h2, h3⟩ := fits_iff.1 h
  have h4 := entOk_iff.1 h2
  refine ownOk_iff.2 ⟨by rw [put_len]; exact (ownOk_iff.1 h1).1, fun r hr => ?_⟩
  rcases List.mem_or_eq_of_mem_set hr with h5 | h5
  · exact (ownOk_iff.1 h1).2 r h5
  · subst h5
    exact turned_ok (at_ok h1 (by omega) (by omega)) h2 h3

/-- rows behind entries, one behind the other -/
def foldE : List Ent → List Rw → Option (List Rw)
  | [], rs => some rs
  | e :: l, rs => if fits rs e = true then foldE l (put rs e) else none
def none8 : List Rw := List.replicate 8 noRow
def ownFold (l : List Ent) : Option (List Rw) := if l.length ≤ 40 then foldE l none8 else none
theorem none8_ok : ownOk none8 = true := by decide
theorem foldE_ok : ∀ (l : List Ent) (rs rs' : List Rw), ownOk rs = true → foldE l rs = some rs' → ownOk rs' = true := by
  intro l
  induction l with
  | nil => intro rs rs' h h2; simp only [foldE] at h2; cases h2; exact h
  | cons e l ih =>
    intro rs rs' h h2
    simp only [foldE] at h2
    split at h2
    · rename_i hf; exact ih _ _ (put_ok hf) h2
    · cases h2
theorem foldE_snoc : ∀ (l : List Ent) (e : Ent) (rs : List Rw), foldE (l ++ [e]) rs = (foldE l rs).bind fun x => if fits x e = true then some (put x e) else none := by
  intro l
  induction l with
  | nil => intro e rs; simp only [List.nil_append, foldE]; rfl
  | cons x l ih =>
    intro e rs
    simp only [List.cons_append, foldE]
    split
    · exact ih e _
    · rfl
theorem foldE_take : ∀ (l : List Ent) (k : Nat) (rs rs' : List Rw), foldE l rs = some rs' → ∃ x, foldE (l.take k) rs = some x := by
  intro l
  induction l with
  | nil => intro k rs rs' h; exact ⟨rs, by rw [List.take_nil]; rfl⟩
  | cons e l ih =>
    intro k rs rs' h
    cases k with
    | zero => exact ⟨rs, rfl⟩
    | succ k =>
      simp only [foldE] at h
      split at h
      · rename_i hf
        obtain ⟨x, hx⟩ := ih k _ _ h
        exact ⟨x, by simp only [List.take_succ_cons, foldE]; rw [if_pos hf]; exact hx⟩
      · cases h

/-- the entries about a ticket, in order -/
def about (l : List Ent) (t : Int) : List Ent := l.filter (fun e => decide (e.2.1 = t))
end Go.Proofs.Ytmlbphmbffkdnaa.Tm
namespace Go.Proofs.Ytmlbphmbffkdnaa.Tm

def monOk (p : List Int) : Bool := decide (p.length = 5) && p.all (fun x => decide (0 ≤ x ∧ x ≤ 100000))
theorem monOk_iff {p : List Int} : monOk p = true ↔ p.length = 5 ∧ ∀ x ∈ p, 0 ≤ x ∧ x ≤ 100000 := by
  unfold monOk; rw [Bool.and_eq_true, decide_eq_true_iff, List.all_eq_true]
  exact ⟨fun h => ⟨h.1, fun x hx => by simpa using h.2 x hx⟩, fun h => ⟨h.1, fun x hx => by simpa using h.2 x hx⟩⟩
theorem monOk_len {p : List Int} (h : p.length ≠ 5) : monOk p = false := by rw [← Bool.not_eq_true, monOk_iff]; exact fun e => h e.1
theorem monOk_at {p : List Int} {k : Nat} (hk : k < p.length) (h : ¬ (0 ≤ p.getD k 0 ∧ p.getD k 0 ≤ 100000)) : monOk p = false := by
  rw [← Bool.not_eq_true, monOk_iff]; intro e
  refine h (e.2 _ ?_)
  simp [List.getD, List.getElem?_eq_getElem hk]
theorem monOk_all {p : List Int} (hl : p.length = 5) (h : ∀ j, j < p.length → 0 ≤ p.getD j 0 ∧ p.getD j 0 ≤ 100000) : monOk p = true := by
  rw [monOk_iff]
  refine ⟨hl, fun x hx => ?_⟩
  obtain ⟨j, hj, rfl⟩ := List.getElem_of_mem hx
  have := h j hj
  simpa [List.getD, List.getElem?_eq_getElem hj] using this
theorem monOk_get {p : List Int} (h : monOk p = true) {j : Nat} (hj : j < 5) : 0 ≤ p.getD j 0 ∧ p.getD j 0 ≤ 100000 := by
  rw [monOk_iff] at h
  refine h.2 _ ?_
  have : j < p.length := by omega
  simp [List.getD, List.getElem?_eq_getElem this]
/-- what somebody has -/
def has (p : List Int) (u : Int) : Int := p.getD (u - 1).toNat 0
theorem has_nat (p : List Int) (j : Nat) : has p ((j : Int) + 1) = p.getD j 0 := by
  unfold has
  rw [show ((j : Int) + 1 - 1).toNat = j by omega]
def turnOk (p : List Int) (u n : Int) : Bool := decide (monOk p = true ∧ (1 ≤ u ∧ u ≤ 5) ∧ (-100000 ≤ n ∧ n ≤ 100000) ∧ 0 ≤ has p u + n ∧ has p u + n ≤ 100000)
theorem turnOk_iff {p : List Int} {u n : Int} : turnOk p u n = true ↔ monOk p = true ∧ (1 ≤ u ∧ u ≤ 5) ∧ (-100000 ≤ n ∧ n ≤ 100000) ∧ 0 ≤ has p u + n ∧ has p u + n ≤ 100000 := by unfold turnOk; rw [decide_eq_true_iff]
theorem turnOk_no {p : List Int} {u n : Int} (h : ¬ (monOk p = true ∧ (1 ≤ u ∧ u ≤ 5) ∧ (-100000 ≤ n ∧ n ≤ 100000) ∧ 0 ≤ has p u + n ∧ has p u + n ≤ 100000)) : turnOk p u n = false := by unfold turnOk; rw [decide_eq_false_iff_not]; exact h
def turnSet (p : List Int) (u n : Int) : List Int := p.set (u - 1).toNat (has p u + n)
def monTurn (p : List Int) (u n : Int) : List Int := if turnOk p u n = true then turnSet p u n else p
theorem monTurn_of {p : List Int} {u n : Int} (h : turnOk p u n = true) : monTurn p u n = turnSet p u n := by unfold monTurn; rw [if_pos h]
theorem monTurn_no {p : List Int} {u n : Int} (h : turnOk p u n = false) : monTurn p u n = p := by unfold monTurn; rw [if_neg (by simp [h])]
theorem turnSet_len (p : List Int) (u n : Int) : (turnSet p u n).length = p.length := by unfold turnSet; rw [List.length_set]
theorem monTurn_len (p : List Int) (u n : Int) : (monTurn p u n).length = p.length := by unfold monTurn; split; exact turnSet_len p u n; rfl
end Go.Proofs.Ytmlbphmbffkdnaa.Tm
