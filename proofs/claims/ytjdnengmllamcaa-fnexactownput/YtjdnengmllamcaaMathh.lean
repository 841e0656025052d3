/-
  Entries, and how tickets stand, as plain mathematics: caps, what is ok, what may follow, how entries lead from rows to rows; and that a ticket is issued once and entered with once.
-/
import Derived.Test.YtjdnengmllamcaaMath
namespace Go.Proofs.Ytjdnengmllamcaa.Tm

/-- an entry: kind, ticket, who, price -/
abbrev Ent := Int × Int × Int × Int
/-- how a ticket stands: who, face, used -/
abbrev Rw := Int × Int × Bool

def cap (f : Int) : Int := if 1 ≤ f ∧ f ≤ 50 then f + f / 5 else 0
theorem cap_of {f : Int} (h : 1 ≤ f ∧ f ≤ 50) : cap f = f + f / 5 := by unfold cap; rw [if_pos h]
theorem cap_no {f : Int} (h : ¬ (1 ≤ f ∧ f ≤ 50)) : cap f = 0 := by unfold cap; rw [if_neg h]
theorem cap_bd (f : Int) : 0 ≤ cap f ∧ cap f ≤ 60 := by unfold cap; split <;> omega
/-- A cap is a fifth more. -/
theorem cap_law {f : Int} (h : 1 ≤ f ∧ f ≤ 50) : f ≤ cap f ∧ 5 * (cap f - f) ≤ f ∧ f - 5 < 5 * (cap f - f) ∧ (f = 50 ∨ cap f < cap (f + 1)) := by
  by_cases h5 : f = 50
  · subst h5; exact ⟨by decide, by decide, by decide, Or.inl rfl⟩
  · rw [cap_of h, cap_of (f := f + 1) (by omega)]
    omega

def entOk (e : Ent) : Bool :=
  decide (0 ≤ e.2.1 ∧ e.2.1 ≤ 7 ∧ 1 ≤ e.2.2.1 ∧ e.2.2.1 ≤ 5 ∧ ((e.1 = 1 ∧ 1 ≤ e.2.2.2 ∧ e.2.2.2 ≤ 50) ∨ (e.1 = 2 ∧ 1 ≤ e.2.2.2 ∧ e.2.2.2 ≤ 60) ∨ (e.1 = 3 ∧ e.2.2.2 = 0)))
theorem entOk_iff {e : Ent} : entOk e = true ↔ 0 ≤ e.2.1 ∧ e.2.1 ≤ 7 ∧ 1 ≤ e.2.2.1 ∧ e.2.2.1 ≤ 5 ∧ ((e.1 = 1 ∧ 1 ≤ e.2.2.2 ∧ e.2.2.2 ≤ 50) ∨ (e.1 = 2 ∧ 1 ≤ e.2.2.2 ∧ e.2.2.2 ≤ 60) ∨ (e.1 = 3 ∧ e.2.2.2 = 0)) := by
  unfold entOk; rw [decide_eq_true_iff]

def noRow : Rw := (0, 0, false)
def rowOk (r : Rw) : Bool := decide (r = noRow ∨ (1 ≤ r.1 ∧ r.1 ≤ 5 ∧ 1 ≤ r.2.1 ∧ r.2.1 ≤ 50))
theorem rowOk_iff {r : Rw} : rowOk r = true ↔ r = noRow ∨ (1 ≤ r.1 ∧ r.1 ≤ 5 ∧ 1 ≤ r.2.1 ∧ r.2.1 ≤ 50) := by unfold rowOk; rw [decide_eq_true_iff]
def ownOk (rs : List Rw) : Bool := decide (rs.length = 8) && rs.all rowOk
theorem ownOk_iff {rs : List Rw} : ownOk rs = true ↔ rs.length = 8 ∧ ∀ r ∈ rs, rowOk r = true := by
  unfold ownOk; rw [Bool.and_eq_true, decide_eq_true_iff, List.all_eq_true]
def at' (rs : List Rw) (t : Int) : Rw := rs.getD t.toNat noRow
theorem at_mem {rs : List Rw} {t : Int} (h0 : 0 ≤ t) (h : t < rs.length) : at' rs t ∈ rs := by
  unfold at'
  rw [List.getD_eq_getElem?_getD, List.getElem?_eq_getElem (by omega : t.toNat < rs.length)]
  exact List.getElem_mem _
theorem at_ok {rs : List Rw} (h : ownOk rs = true) {t : Int} (h0 : 0 ≤ t) (h7 : t ≤ 7) : rowOk (at' rs t) = true := by
  obtain ⟨h1, h2⟩ := ownOk_iff.1 h
  exact h2 _ (at_mem h0 (by omega))

/-- whether an entry may follow on how its ticket stands -/
def may (r : Rw) (e : Ent) : Bool :=
  decide ((e.1 = 1 ∧ r.1 = 0) ∨ (e.1 = 2 ∧ r.1 ≠ 0 ∧ r.2.2 = false ∧ r.1 ≠ e.2.2.1 ∧ e.2.2.2 ≤ cap r.2.1) ∨ (e.1 = 3 ∧ r.1 = e.2.2.1 ∧ r.2.2 = false))
def fits (rs : List Rw) (e : Ent) : Bool := ownOk rs && entOk e && may (at' rs e.2.1) e
theorem fits_iff {rs : List Rw} {e : Ent} : fits rs e = true ↔ ownOk rs = true ∧ entOk e = true ∧ may (at' rs e.2.1) e = true := by
  unfold fits; rw [Bool.and_eq_true, Bool.and_eq_true, and_assoc]
/-- how its ticket stands behind an entry -/
def turned (r : Rw) (e : Ent) : Rw := if e.1 = 1 then (e.2.2.1, e.2.2.2, false) else if e.1 = 2 then (e.2.2.1, r.2.1, r.2.2) else (r.1, r.2.1, true)
def put (rs : List Rw) (e : Ent) : List Rw := rs.set e.2.1.toNat (turned (at' rs e.2.1) e)
theorem put_len (rs : List Rw) (e : Ent) : (put rs e).length = rs.length := by unfold put; rw [List.length_set]
theorem put_same {rs : List Rw} {e : Ent} (h : fits rs e = true) : at' (put rs e) e.2.1 = turned (at' rs e.2.1) e := by
  obtain ⟨h1, h2, -⟩ := fits_iff.1 h
  have h3 := (ownOk_iff.1 h1).1
  have h4 := entOk_iff.1 h2
  show (rs.set e.2.1.toNat (turned (at' rs e.2.1) e)).getD e.2.1.toNat noRow = _
  rw [List.getD_eq_getElem?_getD, List.getElem?_set_self (by omega)]
  rfl
theorem put_other {rs : List Rw} {e : Ent} {t : Int} (h0 : 0 ≤ t) (he : 0 ≤ e.2.1) (hne : t ≠ e.2.1) : at' (put rs e) t = at' rs t := by
  show (rs.set e.2.1.toNat (turned (at' rs e.2.1) e)).getD t.toNat noRow = rs.getD t.toNat noRow
  rw [List.getD_eq_getElem?_getD, List.getD_eq_getElem?_getD, List.getElem?_set_ne (by omega)]
theorem turned_ok {r : Rw} {e : Ent} (hr : rowOk r = true) (he : entOk e = true) (hm : may r e = true) : rowOk (turned r e) = true := by
  rw [rowOk_iff] at hr ⊢
  rw [entOk_iff] at he
  unfold may at hm
  rw [decide_eq_true_iff] at hm
  right
  unfold turned noRow at *
  rcases hm with ⟨k, h⟩ | ⟨k, h⟩ | ⟨k, h⟩
  · rw [if_pos k]; simp only; omega
  · rw [if_neg (by omega), if_pos k]
    simp only
    rcases hr with hr | hr
    · rw [hr] at h; simp at h
    · omega
  · rw [if_neg (by omega), if_neg (by omega)]
    simp only
    rcases hr with hr | hr
    · rw [hr] at h; simp at h; omega
    · omega
theorem put_ok {rs : List Rw} {e : Ent} (h : fits rs e = true) : ownOk (put rs e) = true := by
  obtain ⟨h1, h2, h3⟩ := fits_iff.1 h
  have h4 := entOk_iff.1 h2
  refine ownOk_iff.2 ⟨by rw [put_len]; exact (ownOk_iff.1 h1).1, fun r hr => ?_⟩
  rcases List.mem_or_eq_of_mem_set hr with h5 | h5
  · exact (ownOk_iff.1 h1).2 r h5
  · subst h5
    exact turned_ok (at_ok h1 (by omega) (by omega)) h2 h3

/-- rows behind entries, one behind the other -/
def foldE : List Ent → List Rw → Option (List Rw)
  | [], rs => some rs
  | e :: l, rs => if fits rs e = true then foldE l (put rs e) else none
def none8 : List Rw := List.replicate 8 noRow
def ownFold (l : List Ent) : Option (List Rw) := if l.length ≤ 40 then foldE l none8 else none
theorem none8_ok : ownOk none8 = true := by decide
theorem foldE_ok : ∀ (l : List Ent) (rs rs' : List Rw), ownOk rs = true → foldE l rs = some rs' → ownOk rs' = true := by
  intro l
  induction l with
  | nil => intro rs rs' h h2; simp only [foldE] at h2; cases h2; exact h
  | cons e l ih =>
    intro rs rs' h h2
    simp only [foldE] at h2
    split at h2
    · rename_i hf; exact ih _ _ (put_ok hf) h2
    · cases h2
theorem foldE_snoc : ∀ (l : List Ent) (e : Ent) (rs : List Rw), foldE (l ++ [e]) rs = (foldE l rs).bind fun x => if fits x e = true then some (put x e) else none := by
  intro l
  induction l with
  | nil => intro e rs; simp only [List.nil_append, foldE]; rfl
  | cons x l ih =>
    intro e rs
    simp only [List.cons_append, foldE]
    split
    · exact ih e _
    · rfl
theorem foldE_take : ∀ (l : List Ent) (k : Nat) (rs rs' : List Rw), foldE l rs = some rs' → ∃ x, foldE (l.take k) rs = some x := by
  intro l
  induction l with
  | nil => intro k rs rs' h; exact ⟨rs, by rw [List.take_nil]; rfl⟩
  | cons e l ih =>
    intro k rs rs' h
    cases k with
    | zero => exact ⟨rs, rfl⟩
    | succ k =>
      simp only [foldE] at h
      split at h
      · rename_i hf
        obtain ⟨x, hx⟩ := ih k _ _ h
        exact ⟨x, by simp only [List.take_succ_cons, foldE]; rw [if_pos hf]; exact hx⟩
      · cases h

/-- the entries about a ticket, in order -/
def about (l : List Ent) (t : Int) : List Ent := l.filter (fun e => decide (e.2.1 = t))
theorem about_snoc_same {l : List Ent} {e : Ent} {t : Int} (h : e.2.1 = t) : about (l ++ [e]) t = about l t ++ [e] := by
  unfold about; rw [List.filter_append]; simp [h]
theorem about_snoc_other {l : List Ent} {e : Ent} {t : Int} (h : e.2.1 ≠ t) : about (l ++ [e]) t = about l t := by
  unfold about; rw [List.filter_append]; simp [h]
theorem about_about (l : List Ent) (t : Int) : about (about l t) t = about l t := by unfold about; rw [List.filter_filter]; simp

/-- what entries about one ticket are like that follow one another, and how the ticket stands behind them -/
structure Once (x : List Ent) (r : Rw) : Prop where
  none : x = [] → r = noRow
  who : ∀ e : Ent, x.getLast? = some e → r.1 = e.2.2.1 ∧ r.1 ≠ 0 ∧ r.2.2 = decide (e.1 = 3)
  face : ∀ e : Ent, x.head? = some e → r.2.1 = e.2.2.2
  first : ∀ (i : Nat) (e : Ent), x[i]? = some e → (i = 0 ↔ e.1 = 1)
  enter : ∀ (i : Nat) (e : Ent), x[i]? = some e → e.1 = 3 → i + 1 = x.length ∧ ∃ d : Ent, x[i - 1]? = some d ∧ e.2.2.1 = d.2.2.1
  pass : ∀ (i : Nat) (e : Ent), x[i]? = some e → e.1 = 2 → (∃ d : Ent, x[i - 1]? = some d ∧ e.2.2.1 ≠ d.2.2.1) ∧ ∀ f : Ent, x.head? = some f → e.2.2.2 ≤ cap f.2.2.2

theorem once_nil : Once [] noRow := ⟨fun _ => rfl, fun e h => by simp at h, fun e h => by simp at h, fun i e h => by simp at h, fun i e h => by simp at h, fun i e h => by simp at h⟩

/-- one more entry about the ticket, which may follow -/
theorem Once.snoc {x : List Ent} {r : Rw} {e : Ent} (h : Once x r) (he : entOk e = true) (hm : may r e = true) : Once (x ++ [e]) (turned r e) := by
  have hk := entOk_iff.1 he
  unfold may at hm
  rw [decide_eq_true_iff] at hm
  by_cases hx : x = []
  · have hr := h.none hx
    subst hx
    have hk1 : e.1 = 1 := by
      rcases hm with m | m | m
      · exact m.1
      · rw [hr] at m; exact absurd rfl m.2.1
      · rw [hr] at m; simp [noRow] at m; omega
    have ht : turned r e = (e.2.2.1, e.2.2.2, false) := by unfold turned; rw [if_pos hk1]
    rw [ht]
    refine ⟨fun h => by simp at h, fun d hd => ?_, fun d hd => ?_, fun i d hd => ?_, fun i d hd h3 => ?_, fun i d hd h2 => ?_⟩
    · simp at hd; subst hd; simp only; refine ⟨trivial, by omega, ?_⟩; simp; omega
    · simp at hd; subst hd; rfl
    · cases i with
      | zero => simp at hd; subst hd; simp [hk1]
      | succ i => simp at hd
    · cases i with
      | zero => simp at hd; subst hd; omega
      | succ i => simp at hd
    · cases i with
      | zero => simp at hd; subst hd; omega
      | succ i => simp at hd
  · obtain ⟨last, hlast⟩ : ∃ d, x.getLast? = some d := by
      cases hl : x.getLast? with
      | none => rw [List.getLast?_eq_none_iff] at hl; exact absurd hl hx
      | some d => exact ⟨d, rfl⟩
    obtain ⟨f, hf⟩ : ∃ d, x.head? = some d := by
      cases x with
      | nil => exact absurd rfl hx
      | cons a b => exact ⟨a, rfl⟩
    have hpos : 0 < x.length := by cases x; exact absurd rfl hx; simp
    have hli : x[x.length - 1]? = some last := by rw [← List.getLast?_eq_getElem?]; exact hlast
    obtain ⟨w1, w2, w3⟩ := h.who last hlast
    have hfc := h.face f hf
    have hk1 : e.1 ≠ 1 := by
      intro k
      rcases hm with m | m | m
      · exact w2 m.2
      · omega
      · omega
    have hu : r.2.2 = false := by
      rcases hm with m | m | m
      · exact absurd m.1 hk1
      · exact m.2.2.1
      · exact m.2.2
    have hl3 : last.1 ≠ 3 := by
      intro k
      rw [w3, decide_eq_false_iff_not] at hu
      exact hu k
    have hhead : (x ++ [e]).head? = some f := by rw [List.head?_append]; simp [hf]
    have hold : ∀ (i : Nat) (d : Ent), (x ++ [e])[i]? = some d → i < x.length → x[i]? = some d := by
      intro i d hd hi
      rwa [List.getElem?_append_left hi] at hd
    have hnew : ∀ (i : Nat) (d : Ent), (x ++ [e])[i]? = some d → ¬ i < x.length → i = x.length ∧ d = e := by
      intro i d hd hi
      rw [List.getElem?_append_right (by omega)] at hd
      have h0 : i - x.length = 0 := by
        rcases Nat.eq_zero_or_pos (i - x.length) with z | z
        · exact z
        · rw [List.getElem?_eq_none (by simp; omega)] at hd; cases hd
      rw [h0] at hd
      simp at hd
      exact ⟨by omega, hd.symm⟩
    have hprev : (x ++ [e])[x.length - 1]? = some last := by rw [List.getElem?_append_left (by omega)]; exact hli
    have hat : ∀ (i : Nat) (d : Ent), x[i]? = some d → (x ++ [e])[i]? = some d := by
      intro i d hd
      have hi : i < x.length := by
        rcases Nat.lt_or_ge i x.length with z | z
        · exact z
        · rw [List.getElem?_eq_none z] at hd; cases hd
      rw [List.getElem?_append_left hi]; exact hd
    refine ⟨fun h => by simp at h, fun d hd => ?_, fun d hd => ?_, fun i d hd => ?_, fun i d hd h3 => ?_, fun i d hd h2 => ?_⟩
    · rw [List.getLast?_append] at hd
      simp at hd
      subst hd
      unfold turned
      rw [if_neg hk1]
      rcases hm with m | m | m
      · exact absurd m.1 hk1
      · rw [if_pos m.1]
        simp only
        refine ⟨trivial, by omega, ?_⟩
        rw [hu]; symm; rw [decide_eq_false_iff_not]; omega
      · rw [if_neg (by omega)]
        simp only
        refine ⟨m.2.1, w2, ?_⟩
        symm; rw [decide_eq_true_iff]; exact m.1
    · rw [hhead] at hd
      cases hd
      unfold turned
      rw [if_neg hk1]
      split <;> exact hfc
    · by_cases hi : i < x.length
      · exact h.first i d (hold i d hd hi)
      · obtain ⟨rfl, rfl⟩ := hnew i d hd hi
        constructor
        · intro z; omega
        · intro z; exact absurd z hk1
    · by_cases hi : i < x.length
      · obtain ⟨z1, z2⟩ := h.enter i d (hold i d hd hi) h3
        have hil : i = x.length - 1 := by omega
        have hd' := hold i d hd hi
        rw [hil, hli] at hd'
        cases hd'
        exact absurd h3 hl3
      · obtain ⟨rfl, rfl⟩ := hnew i d hd hi
        refine ⟨by simp, last, hprev, ?_⟩
        rcases hm with m | m | m
        · omega
        · omega
        · rw [← w1]; exact m.2.1.symm
    · by_cases hi : i < x.length
      · obtain ⟨⟨z, hz, hz2⟩, hz3⟩ := h.pass i d (hold i d hd hi) h2
        exact ⟨⟨z, hat _ _ hz, hz2⟩, fun g hg => by rw [hhead] at hg; cases hg; exact hz3 f hf⟩
      · obtain ⟨rfl, rfl⟩ := hnew i d hd hi
        rcases hm with m | m | m
        · omega
        · refine ⟨⟨last, hprev, ?_⟩, fun g hg => ?_⟩
          · rw [← w1]; exact fun z => m.2.2.2.1 z.symm
          · rw [hhead] at hg; cases hg; rw [← hfc]; exact m.2.2.2.2
        · omega

/-- A TICKET IS ISSUED ONCE, AND ENTERED WITH ONCE -/
theorem once_all : ∀ (l : List Ent) (rs : List Rw), foldE l none8 = some rs → ∀ t : Int, 0 ≤ t → t ≤ 7 → Once (about l t) (at' rs t) := by
  intro l
  -- from behind: one entry more at a time
  have key : ∀ (n : Nat) (l : List Ent) (rs : List Rw), l.length = n → foldE l none8 = some rs → ∀ t : Int, 0 ≤ t → t ≤ 7 → Once (about l t) (at' rs t) := by
    intro n
    induction n with
    | zero =>
      intro l rs hl hf t h0 h7
      have : l = [] := List.eq_nil_of_length_eq_zero hl
      subst this
      simp only [foldE] at hf
      cases hf
      have e : at' none8 t = noRow := by
        obtain rfl | rfl | rfl | rfl | rfl | rfl | rfl | rfl : t = 0 ∨ t = 1 ∨ t = 2 ∨ t = 3 ∨ t = 4 ∨ t = 5 ∨ t = 6 ∨ t = 7 := by omega
        all_goals rfl
      rw [e]
      exact once_nil
    | succ n ih =>
      intro l rs hl hf t h0 h7
      obtain ⟨init, e, rfl⟩ : ∃ init e, l = init ++ [e] := by
        rcases List.eq_nil_or_concat l with h | ⟨init, e, h⟩
        · subst h; simp at hl
        · exact ⟨init, e, by simpa using h⟩
      rw [foldE_snoc, Option.bind_eq_some_iff] at hf
      obtain ⟨x, hx, hif⟩ := hf
      split at hif
      · rename_i hfit
        cases hif
        obtain ⟨f1, f2, f3⟩ := fits_iff.1 hfit
        have hk := entOk_iff.1 f2
        have hi := ih init x (by simpa using hl) hx t h0 h7
        by_cases ht : e.2.1 = t
        · subst ht
          rw [about_snoc_same rfl, put_same hfit]
          exact hi.snoc f2 f3
        · rw [about_snoc_other ht, put_other h0 hk.1 (fun z => ht z.symm)]
          exact hi
      · cases hif
  exact fun rs => key l.length l rs rfl

/-- how many of a list have a number from 0 up to below n: by one number after the other -/
def upto {α : Type} (f : α → Int) (l : List α) : Nat → Nat
  | 0 => 0
  | n + 1 => upto f l n + (l.filter (fun x => decide (f x = (n : Int)))).length
theorem upto_all {α : Type} (f : α → Int) (l : List α) (n : Nat) : upto f l n = (l.filter (fun x => decide (0 ≤ f x ∧ f x < (n : Int)))).length := by
  induction n with
  | zero =>
    simp only [upto]
    symm
    rw [List.length_eq_zero_iff, List.filter_eq_nil_iff]
    intro x _ h
    rw [decide_eq_true_iff] at h
    omega
  | succ n ih =>
    simp only [upto]
    rw [ih]
    clear ih
    induction l with
    | nil => rfl
    | cons x l ih2 =>
      have e1 : decide (0 ≤ f x ∧ f x < ((n + 1 : Nat) : Int)) = (decide (0 ≤ f x ∧ f x < (n : Int)) || decide (f x = (n : Int))) := by
        rw [Bool.eq_iff_iff, Bool.or_eq_true, decide_eq_true_iff, decide_eq_true_iff, decide_eq_true_iff]
        constructor
        · intro h; by_cases h2 : f x = (n : Int)
          · exact Or.inr h2
          · exact Or.inl (by omega)
        · intro h; rcases h with h | h <;> omega
      rw [List.filter_cons, List.filter_cons, List.filter_cons, e1]
      generalize l.filter (fun x => decide (0 ≤ f x ∧ f x < (n : Int))) = p at *
      generalize l.filter (fun x => decide (f x = (n : Int))) = q at *
      generalize l.filter (fun x => decide (0 ≤ f x ∧ f x < ((n + 1 : Nat) : Int))) = u at *
      by_cases h1 : 0 ≤ f x ∧ f x < (n : Int)
      · have h2 : ¬ f x = (n : Int) := by omega
        rw [decide_eq_true h1, decide_eq_false h2]
        simp only [Bool.or_false, if_true, Bool.false_eq_true, if_false, List.length_cons]
        omega
      · rw [decide_eq_false h1]
        by_cases h2 : f x = (n : Int)
        · rw [decide_eq_true h2]
          simp only [Bool.or_true, if_true, Bool.false_eq_true, if_false, List.length_cons]
          omega
        · rw [decide_eq_false h2]
          simp only [Bool.or_false, Bool.false_eq_true, if_false]
          omega
/-- of rows that are ok each is somebody's, or nobody's -/
theorem own_sum {rs : List Rw} (h : ownOk rs = true) : upto (fun r : Rw => r.1) rs 6 = 8 := by
  obtain ⟨h1, h2⟩ := ownOk_iff.1 h
  rw [upto_all, ← h1]
  congr 1
  rw [List.filter_eq_self]
  intro r hr
  rw [decide_eq_true_iff]
  rcases rowOk_iff.1 (h2 r hr) with h3 | h3
  · rw [h3]; decide
  · omega
/-- the entries about each ticket are together those about one that there is -/
theorem about_sum (l : List Ent) : upto (fun e : Ent => e.2.1) l 8 = (l.filter (fun e => decide (0 ≤ e.2.1 ∧ e.2.1 < 8))).length := upto_all _ l 8
end Go.Proofs.Ytjdnengmllamcaa.Tm
