/-
  Texts of the proof, what it needs of them: Srow.
-/
import Derived.Test.YtmlbphmbffkdnaaGreatGh02
namespace Go.Proofs.YtmlbphmbffkdnaaGreat
open Go.RowKit
set_option linter.unusedVariables false
set_option maxRecDepth 100000

/-- A slice whose elements have several cells: where there are any, it leads to them. -/
def Sl {α : Type} (f : α → List Value) (w : World) (ao : Option Addr) (xs : List α) : Prop :=
  xs ≠ [] → ∃ b off, ao = some ⟨b, off, none⟩ ∧ ∀ j v, (xs.flatMap f)[j]? = some v → w.cell? ⟨b, off + j, none⟩ = some v

theorem flat_len {α : Type} (f : α → List Value) (s : Nat) (hs : ∀ x, (f x).length = s) (xs : List α) : (xs.flatMap f).length = xs.length * s := by
  induction xs with
  | nil => simp
  | cons x xs ih => rw [List.flatMap_cons, List.length_append, ih, hs, List.length_cons, Nat.succ_mul]; omega
theorem flat_at {α : Type} (f : α → List Value) (s : Nat) (hs : ∀ x, (f x).length = s) : ∀ (xs : List α) (k i : Nat) (x : α) (v : Value), xs[k]? = some x → (f x)[i]? = some v → (xs.flatMap f)[k * s + i]? = some v := by
  intro xs
  induction xs with
  | nil => intro k i x v h; simp at h
  | cons y xs ih =>
    intro k i x v h hv
    rw [List.flatMap_cons]
    cases k with
    | zero =>
      simp at h
      subst h
      have hi : i < (f y).length := by
        rcases Nat.lt_or_ge i (f y).length with h2 | h2
        · exact h2
        · rw [List.getElem?_eq_none h2] at hv; cases hv
      rw [Nat.zero_mul, Nat.zero_add, List.getElem?_append_left hi]
      exact hv
    | succ k =>
      rw [List.getElem?_append_right (by rw [hs, Nat.succ_mul]; omega), hs]
      have e : (k + 1) * s + i - s = k * s + i := by rw [Nat.succ_mul]; omega
      rw [e]
      exact ih k i x v (by simpa using h) hv
theorem Sl.at {α : Type} {f : α → List Value} {w : World} {b off : Nat} {xs : List α} {s : Nat} (hs : ∀ x, (f x).length = s)
    (hc : ∀ j v, (xs.flatMap f)[j]? = some v → w.cell? ⟨b, off + j, none⟩ = some v) {k : Nat} {x : α} (hk : xs[k]? = some x) (i : Nat) {v : Value} (hv : (f x)[i]? = some v) : w.cell? ⟨b, off + k * s + i, none⟩ = some v := by
  rw [Nat.add_assoc]
  exact hc _ _ (flat_at f s hs xs k i x v hk hv)
theorem Sl.below {α : Type} {f : α → List Value} {w w' : World} {ao : Option Addr} {xs : List α} (h : Sl f w ao xs) (hb : Below w.heap.size w w') : Sl f w' ao xs := by
  intro hne
  obtain ⟨b, off, rfl, hc⟩ := h hne
  refine ⟨b, off, rfl, fun j v hv => ?_⟩
  have h1 := hc j v hv
  rw [hb.cell (p := ⟨b, off + j, none⟩) (World.block_lt_of_cell? w _ h1)]
  exact h1
theorem Sl.kept {α : Type} {f : α → List Value} {w w' : World} {ao : Option Addr} {xs : List α} {row : Option Nat} (h : Sl f w ao xs) (hg : w.grownBy w' row) (hne : ∀ a, ao = some a → some a.block ≠ row) : Sl f w' ao xs := by
  intro hne'
  obtain ⟨b, off, rfl, hc⟩ := h hne'
  exact ⟨b, off, rfl, fun j v hv => hg.cell (hc j v hv) (hne ⟨b, off, none⟩ rfl)⟩
theorem Sl.drewN {α : Type} {f : α → List Value} {w : World} {ao : Option Addr} {xs : List α} (h : Sl f w ao xs) (n : Nat) : Sl f (w.drewN n) ao xs := h

theorem cell_bl {W w' : World} (h : Below W.heap.size W w') {p : Addr} {v : Value} (hc : W.cell? p = some v) : w'.cell? p = some v := (h.cell (World.block_lt_of_cell? W p hc)).trans hc

def eCells (e : Tm.Ent) : List Value := [.int .i64 e.1, .int .i64 e.2.1, .int .i64 e.2.2.1, .int .i64 e.2.2.2]
def rCells (r : Tm.Rw) : List Value := [.int .i64 r.1, .int .i64 r.2.1, .bool r.2.2]
theorem eCells_len (e : Tm.Ent) : (eCells e).length = 4 := rfl
theorem rCells_len (r : Tm.Rw) : (rCells r).length = 3 := rfl
def FitE (e : Tm.Ent) : Prop := FitsE e.1 e.2.1 e.2.2.1 e.2.2.2
def FitR (r : Tm.Rw) : Prop := (-9223372036854775808 ≤ r.1 ∧ r.1 ≤ 9223372036854775807) ∧ (-9223372036854775808 ≤ r.2.1 ∧ r.2.1 ≤ 9223372036854775807)

/-- the cells of one entry, of one row, also behind what came later -/
theorem e_cells {w w' : World} {b off k : Nat} {es : List Tm.Ent} (hb : Below w.heap.size w w') (hc : ∀ j v, (es.flatMap eCells)[j]? = some v → w.cell? ⟨b, off + j, none⟩ = some v) {a c d f : Int} (hk : es[k]? = some (a, c, d, f)) :
    w'.cell? ⟨b, off + k * 4, none⟩ = some (.int .i64 a) ∧ w'.cell? ⟨b, off + k * 4 + 1, none⟩ = some (.int .i64 c) ∧ w'.cell? ⟨b, off + k * 4 + 2, none⟩ = some (.int .i64 d) ∧ w'.cell? ⟨b, off + k * 4 + 3, none⟩ = some (.int .i64 f) :=
  ⟨cell_bl hb (Sl.at eCells_len hc hk 0 rfl), cell_bl hb (Sl.at eCells_len hc hk 1 rfl), cell_bl hb (Sl.at eCells_len hc hk 2 rfl), cell_bl hb (Sl.at eCells_len hc hk 3 rfl)⟩
theorem r_cells {w w' : World} {b off k : Nat} {rs : List Tm.Rw} (hb : Below w.heap.size w w') (hc : ∀ j v, (rs.flatMap rCells)[j]? = some v → w.cell? ⟨b, off + j, none⟩ = some v) {a c : Int} {d : Bool} (hk : rs[k]? = some (a, c, d)) :
    w'.cell? ⟨b, off + k * 3, none⟩ = some (.int .i64 a) ∧ w'.cell? ⟨b, off + k * 3 + 1, none⟩ = some (.int .i64 c) ∧ w'.cell? ⟨b, off + k * 3 + 2, none⟩ = some (.bool d) :=
  ⟨cell_bl hb (Sl.at rCells_len hc hk 0 rfl), cell_bl hb (Sl.at rCells_len hc hk 1 rfl), cell_bl hb (Sl.at rCells_len hc hk 2 rfl)⟩

/-- entries, rows in memory -/
def ERow (w : World) (ao : Option Addr) (es : List Tm.Ent) : Prop := (∀ e ∈ es, FitE e) ∧ Sl eCells w ao es
def RRow (w : World) (ao : Option Addr) (rs : List Tm.Rw) : Prop := (∀ r ∈ rs, FitR r) ∧ Sl rCells w ao rs
def EOwn (w : World) (base : Nat) (v : Value) (es : List Tm.Ent) : Prop := (∀ e ∈ es, FitE e) ∧ w.ownsRow base 80 4 v es.length (es.flatMap eCells)
/-- rows that the call made: a list, or an array -/
def ROwn (w : World) (base : Nat) (v : Value) (rs : List Tm.Rw) : Prop := (∀ r ∈ rs, FitR r) ∧ ∃ t, w.ownsRow base t 3 v rs.length (rs.flatMap rCells)
theorem Tryz.infoE : (Tryz.prog.info? 80).map (fun i => (i.zero, i.size, i.bytes)) = some (some (.agg #[.int .i64 0, .int .i64 0, .int .i64 0, .int .i64 0]), 4, 32) := by kernel_rfl
theorem Tryz.infoR : (Tryz.prog.info? 29).map (fun i => (i.zero, i.size, i.bytes)) = some (some (.agg #[.int .i64 0, .int .i64 0, .bool false]), 3, 24) := by kernel_rfl

theorem owns_sl {α : Type} {f : α → List Value} {w : World} {base g s cap : Nat} {t : TypeId} {xs : List α} (hs : ∀ x, (f x).length = s)
    (h : w.ownsRow base t s (.slice (some ⟨g, 0, none⟩) xs.length cap) xs.length (xs.flatMap f)) : ∀ j v, (xs.flatMap f)[j]? = some v → w.cell? ⟨g, 0 + j, none⟩ = some v := by
  intro j v hv
  have hj : j < (xs.flatMap f).length := by
    rcases Nat.lt_or_ge j (xs.flatMap f).length with h2 | h2
    · exact h2
    · rw [List.getElem?_eq_none h2] at hv; cases hv
  rw [flat_len f s hs] at hj
  rw [Nat.zero_add, h.cellAt j (by omega)]
  exact hv
/-- What is owned can be read. -/
theorem owns_read {α : Type} {f : α → List Value} {w : World} {base s : Nat} {t : TypeId} {v : Value} {xs : List α} (hs : ∀ x, (f x).length = s) (ho : w.ownsRow base t s v xs.length (xs.flatMap f)) :
    ∃ ao cap, v = .slice ao xs.length cap ∧ xs.length ≤ cap ∧ Sl f w ao xs ∧ (∀ a, ao = some a → base ≤ a.block ∧ a.block < w.heap.size) := by
  have hlt := ho.lt
  rcases ho.2 with ⟨hv, hz⟩ | ⟨g, cap, cur, hv, hb, hh, hnc, hcm, hcs, htake⟩
  · subst hv
    have : xs = [] := List.eq_nil_of_length_eq_zero hz
    subst this
    exact ⟨none, 0, rfl, Nat.le_refl _, fun h => absurd rfl h, fun a h => by cases h⟩
  · subst hv
    refine ⟨some ⟨g, 0, none⟩, cap, rfl, hnc, fun _ => ⟨g, 0, rfl, owns_sl hs ho⟩, ?_⟩
    intro a ha
    cases ha
    exact hlt g rfl
theorem EOwn.row {w : World} {base : Nat} {v : Value} {es : List Tm.Ent} (h : EOwn w base v es) :
    ∃ ao cap, v = .slice ao es.length cap ∧ es.length ≤ cap ∧ ERow w ao es ∧ (∀ a, ao = some a → base ≤ a.block ∧ a.block < w.heap.size) := by
  obtain ⟨ao, cap, h1, h2, h3, h4⟩ := owns_read eCells_len h.2
  exact ⟨ao, cap, h1, h2, ⟨h.1, h3⟩, h4⟩
theorem ROwn.row {w : World} {base : Nat} {v : Value} {rs : List Tm.Rw} (h : ROwn w base v rs) :
    ∃ ao cap, v = .slice ao rs.length cap ∧ rs.length ≤ cap ∧ RRow w ao rs ∧ (∀ a, ao = some a → base ≤ a.block ∧ a.block < w.heap.size) := by
  obtain ⟨f, t, h0⟩ := h
  obtain ⟨ao, cap, h1, h2, h3, h4⟩ := owns_read rCells_len h0
  exact ⟨ao, cap, h1, h2, ⟨f, h3⟩, h4⟩
theorem owns_below {w w' : World} {base s n : Nat} {t : TypeId} {v : Value} {cs : List Value} (h : w.ownsRow base t s v n cs) (hb : Below w.heap.size w w') : w'.ownsRow base t s v n cs := by
  have hg : w.grownBy w' none := ⟨hb.os, hb.tape, hb.output, hb.size, fun k hk _ => hb.block k hk⟩
  refine h.kept hg ?_
  cases hv : v.ownBlock with
  | none => exact Or.inl rfl
  | some b => exact Or.inr (by simp)
theorem EOwn.below {w w' : World} {base : Nat} {v : Value} {es : List Tm.Ent} (h : EOwn w base v es) (hb : Below w.heap.size w w') : EOwn w' base v es := ⟨h.1, owns_below h.2 hb⟩
theorem ROwn.below {w w' : World} {base : Nat} {v : Value} {rs : List Tm.Rw} (h : ROwn w base v rs) (hb : Below w.heap.size w w') : ROwn w' base v rs := by
  obtain ⟨f, t, h0⟩ := h
  exact ⟨f, t, owns_below h0 hb⟩
theorem ERow.below {w w' : World} {ao : Option Addr} {es : List Tm.Ent} (h : ERow w ao es) (hb : Below w.heap.size w w') : ERow w' ao es := ⟨h.1, h.2.below hb⟩
theorem RRow.below {w w' : World} {ao : Option Addr} {rs : List Tm.Rw} (h : RRow w ao rs) (hb : Below w.heap.size w w') : RRow w' ao rs := ⟨h.1, h.2.below hb⟩
theorem owns_nil (w : World) (base s : Nat) (t : TypeId) (h : base ≤ w.heap.size) : w.ownsRow base t s (.slice none 0 0) 0 [] := ⟨by simp, Or.inl ⟨rfl, rfl⟩⟩
/-- a new list that is told back: it lies in memory of the call's own -/
def ETold (w : World) (es : List Tm.Ent) (e : Ending) (w' : World) : Prop := ∃ v, e = .returned v ∧ EOwn w' w.heap.size v es ∧ Below w.heap.size w w'
def RTold (w : World) (rs : List Tm.Rw) (e : Ending) (w' : World) : Prop := ∃ v, e = .returned v ∧ ROwn w' w.heap.size v rs ∧ Below w.heap.size w w'
/-- what lies at a place -/
theorem e_at {es : List Tm.Ent} {k : Nat} (h : k < es.length) : ∃ x, es[k]? = some x ∧ es.take (k + 1) = es.take k ++ [x] := ⟨es[k], List.getElem?_eq_getElem h, by rw [List.take_succ_eq_append_getElem h]⟩
end Go.Proofs.YtmlbphmbffkdnaaGreat
namespace Go.Proofs.YtmlbphmbffkdnaaGreat
open Go.RowKit
set_option linter.unusedVariables false

/-- values written one behind the other -/
def setAll (l : List Value) : Nat → List Value → List Value
  | _, [] => l
  | j, v :: vs => setAll (l.set j v) (j + 1) vs
theorem setAll_mid : ∀ (vs A C B : List Value), C.length = vs.length → setAll (A ++ C ++ B) A.length vs = A ++ vs ++ B := by
  intro vs
  induction vs with
  | nil => intro A C B h; have : C = [] := List.eq_nil_of_length_eq_zero h; subst this; rfl
  | cons v vs ih =>
    intro A C B h
    cases C with
    | nil => simp at h
    | cons c C =>
      show setAll ((A ++ c :: C ++ B).set A.length v) (A.length + 1) vs = _
      have e : (A ++ c :: C ++ B).set A.length v = (A ++ [v]) ++ C ++ B := by
        rw [List.append_assoc, List.set_append, if_neg (by omega), Nat.sub_self]; simp
      rw [e, show A.length + 1 = (A ++ [v]).length by simp, ih (A ++ [v]) C B (by simpa using h)]
      simp
theorem flat_set {α : Type} (f : α → List Value) (s : Nat) (hs : ∀ x, (f x).length = s) (ys : List α) (k : Nat) (x : α) (hk : k < ys.length) : setAll (ys.flatMap f) (k * s) (f x) = (ys.set k x).flatMap f := by
  have e1 : ys = ys.take k ++ ys[k] :: ys.drop (k + 1) := by rw [← List.drop_eq_getElem_cons hk, List.take_append_drop]
  have e2 : ys.set k x = ys.take k ++ x :: ys.drop (k + 1) := by rw [List.set_eq_take_append_cons_drop, if_pos hk]
  have l1 : ((ys.take k).flatMap f).length = k * s := by rw [flat_len f s hs, List.length_take, Nat.min_eq_left (by omega)]
  rw [e2, List.flatMap_append, List.flatMap_cons, ← List.append_assoc, ← l1]
  have e3 : ys.flatMap f = (ys.take k).flatMap f ++ f ys[k] ++ (ys.drop (k + 1)).flatMap f := by
    rw [List.append_assoc, ← List.flatMap_cons, ← List.flatMap_append, ← e1]
  rw [e3]
  exact setAll_mid (f x) _ _ _ (by rw [hs, hs])
theorem made_flat {α : Type} (f : α → List Value) (s : Nat) (z : α) (zc : Array Value) (hz : zc.toList = f z) (hs : (f z).length = s) (hp : 0 < s) : ∀ n : Nat, (madeCells zc (n * s)).toList = (List.replicate n z).flatMap f := by
  have hsz : zc.size = s := by rw [← hs, ← hz]; simp
  intro n
  apply List.ext_getElem?
  intro j
  have hlen : ((List.replicate n z).flatMap f).length = n * s := by
    clear hz hsz
    induction n with
    | zero => simp
    | succ n ih => rw [List.replicate_succ, List.flatMap_cons, List.length_append, ih, hs, Nat.succ_mul]; omega
  by_cases hj : j < n * s
  · have h1 : j / s < n := by rw [Nat.div_lt_iff_lt_mul hp]; exact hj
    have h2 : j % s < s := Nat.mod_lt _ hp
    have h3 : (List.replicate n z)[j / s]? = some z := by rw [List.getElem?_replicate, if_pos h1]
    obtain ⟨a, h4⟩ : ∃ a, (f z)[j % s]? = some a := ⟨(f z)[j % s]'(by omega), List.getElem?_eq_getElem (by omega)⟩
    have h5 : ((List.replicate n z).flatMap f)[j / s * s + j % s]? = some a := by
      clear hz hlen hj
      have key : ∀ (n k : Nat), k < n → ((List.replicate n z).flatMap f)[k * s + j % s]? = some a := by
        intro n
        induction n with
        | zero => intro k hk; omega
        | succ n ih =>
          intro k hk
          rw [List.replicate_succ, List.flatMap_cons]
          cases k with
          | zero => rw [Nat.zero_mul, Nat.zero_add, List.getElem?_append_left (by omega)]; exact h4
          | succ k =>
            rw [List.getElem?_append_right (by rw [hs, Nat.succ_mul]; omega), hs]
            have e : (k + 1) * s + j % s - s = k * s + j % s := by rw [Nat.succ_mul]; omega
            rw [e]; exact ih k (by omega)
      exact key n _ h1
    rw [show j / s * s + j % s = j by rw [Nat.mul_comm]; exact Nat.div_add_mod j s] at h5
    rw [h5]
    have h6 : zc[j % s]! = a := by
      have h7 : j % s < zc.size := by omega
      rw [getElem!_pos zc (j % s) h7]
      rw [← hz] at h4
      simp [h7] at h4
      exact h4
    simp [madeCells, hj, hsz, h6]
  · rw [List.getElem?_eq_none (by simp [madeCells]; omega), List.getElem?_eq_none (by omega)]

end Go.Proofs.YtmlbphmbffkdnaaGreat
