/-
  Heads: what the mathematics says of those that follow; the walk of the law FnHedFollows: at every code it answers true, and nothing that was there is written.
-/
import Derived.Test.YtmlbphmbffkdnaaDhg
import Derived.Test.YtmlbphmbffkdnaaHedcs
import Derived.Test.YtmlbphmbffkdnaaLawshk
import Derived.Test.YtmlbphmbffkdnaaLawsho
namespace Go.Proofs.Ytmlbphmbffkdnaa
open Go.RowKit
set_option linter.unusedVariables false
set_option maxRecDepth 100000

theorem hm_take {ys : List Int} (h : Tm.treOk ys = true) (m : Nat) : Tm.treOk (ys.take m) = true := by
  obtain ⟨t1, t2⟩ := treOk_len h
  unfold Tm.treOk
  rw [decide_eq_true (by rw [List.length_take]; omega), Tm.okAll_take t2 m]; rfl
theorem hm_check {ys : List Int} {m : Nat} (hok : Tm.treOk ys = true) (h1 : 1 ≤ m) (h2 : m ≤ ys.length) : Tm.conCheck m (Tm.treRoot (ys.take m)) ys.length (Tm.treRoot ys) (Tm.con ys m true) = true := by
  obtain ⟨t1, t2⟩ := treOk_len hok
  have hb := Tm.both_con _ ys m true (Tm.root (ys.take m)) (Nat.le_refl _) t1 h1 h2 (fun _ => rfl)
  have hp : Tm.treOk (Tm.con ys m true) = true := by
    unfold Tm.treOk
    rw [decide_eq_true (by have := Tm.con_len7 (l := ys) (m := m) true t1 h1 h2; omega), Tm.con_ok _ ys m true (Nat.le_refl _) t1 h1 h2 t2]; rfl
  have o1 : Tm.okB (Tm.root (ys.take m)) = true := Tm.root_ok _ _ (Nat.le_refl _) (by rw [List.length_take]; omega) (Tm.okAll_take t2 m)
  have o2 : Tm.okB (Tm.root ys) = true := Tm.root_ok _ _ (Nat.le_refl _) t1 t2
  rw [root_of_ok hok, root_of_ok (hm_take hok m), conCheck_of ⟨by omega, by omega, by omega, by omega, o1, o2, hp⟩, hb]
  simp
theorem entLeaves_tk (es : List Tm.Ent) (k : Nat) : Tm.entLeaves (es.take k) = (Tm.entLeaves es).take k := by unfold Tm.entLeaves; rw [List.map_take]
theorem hm_size {es : List Tm.Ent} {k : Nat} (hk : k ≤ es.length) (h1 : foldIs (es.take k) = true) : hS (es.take k) = (k : Int) := by
  rw [(hed_yes h1).1, List.length_take, Nat.min_eq_left hk]
theorem hm_follows {es : List Tm.Ent} {k : Nat} (hk : k ≤ es.length) (h : foldIs es = true) (h1 : foldIs (es.take k) = true) :
    hedFollows (hS (es.take k)) (hL (es.take k)) (hO (es.take k)) (hS es) (hL es) (hO es) (hedProof es k) = true := by
  have o1 := hedOk_of h1
  have o2 := hedOk_of h
  have s1 := hm_size hk h1
  have s2 := (hed_yes h).1
  have hg : hedGrown (hS (es.take k)) (hL (es.take k)) (hS es) (hL es) (hedProof es k) = true := by
    by_cases h0 : k = 0
    · rw [grown0 (by rw [s1]; omega)]
      have : hedProof es k = [] := conProof_no (by omega)
      rw [this]; rfl
    · rw [grown1 (by rw [s1]; omega), s1, s2, (hed_yes h1).2.1, (hed_yes h).2.1, entLeaves_tk]
      have ho := entLeaves_treOk (foldIs_len h)
      have hp : hedProof es k = Tm.con (Tm.entLeaves es) k true := conProof_of ⟨ho, by omega, by rw [entLeaves_ln]; omega⟩
      rw [hp]
      have := hm_check (m := k) ho (by omega) (by rw [entLeaves_ln]; exact hk)
      rw [entLeaves_ln] at this
      exact this
  by_cases e : k = es.length
  · have e2 : es.take k = es := by rw [e]; exact List.take_length
    rw [e2] at o1 hg ⊢
    rw [hf6 o1 o1 rfl hg]; simp
  · exact hf5 o1 o2 (by rw [s1, s2]; omega) hg
theorem hm_back {es : List Tm.Ent} {k : Nat} (hk : k ≤ es.length) (h : foldIs es = true) (h1 : foldIs (es.take k) = true) :
    hedFollows (hS es) (hL es) (hO es) (hS (es.take k)) (hL (es.take k)) (hO (es.take k)) (hedProof es k) = (hS (es.take k) == hS es) := by
  have s1 := hm_size hk h1
  have s2 := (hed_yes h).1
  by_cases e : k = es.length
  · have e2 : es.take k = es := by rw [e]; exact List.take_length
    have hf := hm_follows hk h h1
    rw [e2] at hf ⊢
    rw [hf]; simp
  · rw [hf3 (by rw [s1, s2]; omega), s1, s2]
    symm
    rw [beq_eq_false_iff_ne]; omega
theorem hf_true {a b c a' b' c' : Int} {ps : List Int} (h : hedFollows a b c a' b' c' ps = true) : hedOk a b c = true ∧ hedOk a' b' c' = true ∧ a ≤ a' := by
  unfold hedFollows at h
  simp only [Bool.and_eq_true, decide_eq_true_eq] at h
  exact ⟨h.1, h.2.1, h.2.2.1⟩

end Go.Proofs.Ytmlbphmbffkdnaa
