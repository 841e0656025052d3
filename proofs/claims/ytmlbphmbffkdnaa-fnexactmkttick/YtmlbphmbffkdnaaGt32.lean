/-
  Texts of the proof, what it needs of them: Tickm.
-/
import Derived.Test.YtmlbphmbffkdnaaGt22
import Derived.Test.YtmlbphmbffkdnaaGt31
namespace Go.Proofs.Ytmlbphmbffkdnaa
open Go.RowKit
set_option linter.unusedVariables false

/-- what is held too long at this clock -/
def dueB (c : Int) (d : Tm.Deal) : Bool := decide (¬ d.2.2.2.1 = 0) && decide (d.2.2.2.2 < c)
def tickD (c : Int) (d : Tm.Deal) : Tm.Deal := if dueB c d = true then (d.1, d.2.1, d.2.2.1, 0, 0) else d
def tickP (c : Int) (pu : List Int) (ds : List Tm.Deal) : List Int := ds.foldl (fun p d => if dueB c d = true then Tm.monTurn p d.2.2.2.1 d.2.2.1 else p) pu
def tickTo (c : Int) (ds : List Tm.Deal) (k : Nat) : List Tm.Deal := (ds.take k).map (tickD c) ++ ds.drop k
def tickH (h : House) : House := ⟨h.es, tickP (h.cl + 1) h.pu h.ds, h.ds.map (tickD (h.cl + 1)), h.cl + 1, h.nu, h.sa⟩
theorem tickP_hit {c : Int} {pu : List Int} {ds : List Tm.Deal} {k : Nat} {x : Tm.Deal} (h : ds[k]? = some x) (hd : dueB c x = true) : tickP c pu (ds.take (k + 1)) = Tm.monTurn (tickP c pu (ds.take k)) x.2.2.2.1 x.2.2.1 := by
  unfold tickP
  rw [List.take_add_one, h, List.foldl_append]
  simp [hd]
theorem tickP_no {c : Int} {pu : List Int} {ds : List Tm.Deal} {k : Nat} {x : Tm.Deal} (h : ds[k]? = some x) (hd : dueB c x = false) : tickP c pu (ds.take (k + 1)) = tickP c pu (ds.take k) := by
  unfold tickP
  rw [List.take_add_one, h, List.foldl_append]
  simp [hd]
theorem tickP_len (c : Int) (ds : List Tm.Deal) : ∀ pu : List Int, (tickP c pu ds).length = pu.length := by
  unfold tickP
  induction ds with
  | nil => intro pu; rfl
  | cons d t ih =>
    intro pu
    rw [List.foldl_cons, ih]
    split
    · exact Tm.monTurn_len _ _ _
    · rfl
theorem tickTo_zero (c : Int) (ds : List Tm.Deal) : tickTo c ds 0 = ds := by simp [tickTo]
theorem tickTo_all (c : Int) (ds : List Tm.Deal) : tickTo c ds ds.length = ds.map (tickD c) := by simp [tickTo]
theorem tickTo_len (c : Int) (ds : List Tm.Deal) (k : Nat) : (tickTo c ds k).length = ds.length := by
  unfold tickTo
  rw [List.length_append, List.length_map, List.length_take, List.length_drop]
  omega
theorem tickTo_get {c : Int} {ds : List Tm.Deal} {k : Nat} {x : Tm.Deal} (h : ds[k]? = some x) : (tickTo c ds k)[k]? = some x := by
  have hl : k < ds.length := (List.getElem?_eq_some_iff.1 h).1
  unfold tickTo
  rw [List.getElem?_append_right (by rw [List.length_map, List.length_take]; omega), List.length_map, List.length_take, List.getElem?_drop, show k + (k - min k ds.length) = k by omega, h]
theorem tickTo_step {c : Int} {ds : List Tm.Deal} {k : Nat} {x : Tm.Deal} (h : ds[k]? = some x) : (tickTo c ds k).set k (tickD c x) = tickTo c ds (k + 1) := by
  have hl : k < ds.length := (List.getElem?_eq_some_iff.1 h).1
  have hd : ds.drop k = x :: ds.drop (k + 1) := by
    obtain ⟨h1, rfl⟩ := List.getElem?_eq_some_iff.1 h
    rw [List.drop_eq_getElem_cons h1]
  unfold tickTo
  rw [List.take_add_one, h, List.set_append_right _ _ (by rw [List.length_map, List.length_take]; omega), List.length_map, List.length_take, hd, show k - min k ds.length = 0 by omega]
  simp
theorem tickTo_no {c : Int} {ds : List Tm.Deal} {k : Nat} {x : Tm.Deal} (h : ds[k]? = some x) (hd : dueB c x = false) : tickTo c ds k = tickTo c ds (k + 1) := by
  rw [← tickTo_step h]
  have : tickD c x = x := by unfold tickD; rw [if_neg (by simp [hd])]
  rw [this]
  have hg := tickTo_get (c := c) h
  obtain ⟨h1, h2⟩ := List.getElem?_eq_some_iff.1 hg
  rw [← h2, List.set_getElem_self]
theorem dueB_not {c x0 x1 x2 x4 : Int} : dueB c (x0, x1, x2, 0, x4) = false := by simp [dueB]
theorem dueB_yes {c x0 x1 x2 x3 x4 : Int} (h : ¬ x3 = 0) (h2 : x4 < c) : dueB c (x0, x1, x2, x3, x4) = true := by simp [dueB, h, h2]
theorem dueB_late {c x0 x1 x2 x3 x4 : Int} (h2 : ¬ x4 < c) : dueB c (x0, x1, x2, x3, x4) = false := by simp [dueB, h2]
/-- the last two cells of a deal set to nought -/
theorem cells34 {ds : List Tm.Deal} {k : Nat} {x0 x1 x2 x3 x4 : Int} (h : ds[k]? = some (x0, x1, x2, x3, x4)) :
    ((ds.flatMap dCells).set (k * 5 + 3) (.int .i64 0)).set (k * 5 + 4) (.int .i64 0) = (ds.set k (x0, x1, x2, 0, 0)).flatMap dCells := by
  obtain ⟨hl, hx⟩ := List.getElem?_eq_some_iff.1 h
  rw [← flat_set dCells 5 dCells_len ds k (x0, x1, x2, 0, 0) hl]
  have hc : ∀ i v, (dCells (x0, x1, x2, x3, x4))[i]? = some v → i < 5 → (ds.flatMap dCells)[k * 5 + i]? = some v := by
    intro i v hv hi
    have e : ds = ds.take k ++ ds[k] :: ds.drop (k + 1) := by rw [← List.drop_eq_getElem_cons hl, List.take_append_drop]
    rw [e, List.flatMap_append, List.flatMap_cons, hx]
    have hlen : ((ds.take k).flatMap dCells).length = k * 5 := by rw [flat_len dCells 5 dCells_len, List.length_take]; congr 1; omega
    rw [List.getElem?_append_right (by omega), hlen, show k * 5 + i - k * 5 = i by omega, List.getElem?_append_left (by rw [dCells_len]; omega)]
    exact hv
  have set_self : ∀ (l : List Value) (j : Nat) (v : Value), l[j]? = some v → l.set j v = l := by
    intro l j v hv
    obtain ⟨h1, h2⟩ := List.getElem?_eq_some_iff.1 hv
    rw [← h2, List.set_getElem_self]
  show _ = setAll (ds.flatMap dCells) (k * 5) [.int .i64 x0, .int .i64 x1, .int .i64 x2, .int .i64 0, .int .i64 0]
  simp only [setAll]
  rw [set_self _ (k * 5) _ (by have := hc 0 _ rfl (by decide); simpa using this), set_self _ (k * 5 + 1) _ (hc 1 _ rfl (by decide)), set_self _ (k * 5 + 1 + 1) _ (hc 2 _ rfl (by decide))]
end Go.Proofs.Ytmlbphmbffkdnaa
