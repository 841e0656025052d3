/-
  Texts of the proof, what it needs of them: Phs.
-/
import Derived.BigQuiet
import Derived.Deep.QuietTactic
import Derived.Deep.RegionHeld3
import Derived.Test.YtmlbphmbffkdnaaGreatGh00
import Derived.WalkKit
import Derived.WalkLawsBesides
import Derived.WalkSpells
namespace Go.Proofs.YtmlbphmbffkdnaaGreat
open Go.RowKit
set_option linter.unusedVariables false

/-- what holds of a world, unless one of these has come up -/
def PhS (S0 : World → Prop) (Ss : List Nat) (listed : Array Bool) (w : World) : Prop := S0 w ∨ Ss.any (fun s => listed.getD s false) = true
/-- whatever order is picked from here on -/
def wpAnyL (P : Program) (md : Region.Mode) (ops : Array Oper) (Q : Exit → Act → World → Prop) (S0 : World → Prop) (Ss : List Nat) : Nat → Array Bool → Act → World → Prop
  | 0, listed, a, w => Region.ready md ops listed = [] ∧ Q .normal a w
  | fuel + 1, listed, a, w =>
    (Region.ready md ops listed = [] → Q .normal a w) ∧
    ∀ i ∈ Region.ready md ops listed, wpOp P ops Q i (fun a' w' => PhS S0 Ss (listed.setIfInBounds i true) w' ∧ wpAnyL P md ops Q S0 Ss fuel (listed.setIfInBounds i true) a' w') a w
/-- each of these waits for i -/
def waitB (md : Region.Mode) (ops : Array Oper) (Ss : List Nat) (i : Nat) : Bool := Ss.all (fun s => match ops[s]? with
  | some o => o.after.any (fun e => Region.binds md e && e.on == i)
  | none => true)
def noneB (Ss : List Nat) (listed : Array Bool) : Bool := Ss.all (fun s => !(listed.getD s false))
section
variable {P : Program} {ops : Array Oper} {Q : Exit → Act → World → Prop} {md : Region.Mode} {S0 : World → Prop} {Ss : List Nat}

theorem wpAny_of_L : ∀ (fuel : Nat) (listed : Array Bool) (a : Act) (w : World), wpAnyL P md ops Q S0 Ss fuel listed a w → wpAny P md ops Q fuel listed a w
  | 0, _, _, _, h => h
  | fuel + 1, _, _, _, h => ⟨h.1, fun i hi => wpOp_mono (fun a' w' h' => wpAny_of_L fuel _ a' w' h'.2) (h.2 i hi)⟩

theorem any_set {listed : Array Bool} {i : Nat} (hi : Ss.contains i = false) : Ss.any (fun s => (listed.setIfInBounds i true).getD s false) = Ss.any (fun s => listed.getD s false) := by
  have hne : ∀ s ∈ Ss, i ≠ s := fun s hs e => by subst e; simp [hs] at hi
  clear hi
  induction Ss with
  | nil => rfl
  | cons s t ih =>
    rw [List.any_cons, List.any_cons, getD_set_ne false (hne s List.mem_cons_self), ih (fun x hx => hne x (List.mem_cons_of_mem _ hx))]
theorem none_any {listed : Array Bool} (h : noneB Ss listed = true) : Ss.any (fun s => listed.getD s false) = false := by
  unfold noneB at h
  rw [List.any_eq_false]
  intro s hs e
  have := List.all_eq_true.1 h s hs
  rw [e] at this
  cases this
theorem any_none {listed : Array Bool} (h : Ss.any (fun s => listed.getD s false) = false) : noneB Ss listed = true := by
  unfold noneB
  rw [List.all_eq_true]
  intro s hs
  have := List.any_eq_false.1 h s hs
  revert this
  cases listed.getD s false <;> simp

theorem wpAnyL_first {i : Nat} {oi : Oper} {v : Value} (hi : ops[i]? = some oi) (hsel : ∀ (j : Nat) (o : Oper) cs b, ops[j]? = some o → o.op ≠ .select cs b)
    (hQ : ∀ c a w, Q (.panic c) (a.put oi.dst v) w → Q (.panic c) a w) (hSi : Ss.contains i = false) (hwt : waitB md ops Ss i = true) :
    ∀ (fuel : Nat) (listed : Array Bool) (a : Act) (w : World),
      (∀ j oj, ops[j]? = some oj → j ≠ i → listed.getD j true = false → (∀ e ∈ oj.after, Region.binds md e = true → e.on ≠ i) → oi.apart ops oj = true) →
      i ∈ Region.ready md ops listed → YieldsIf P ops S0 oi v a → S0 w → noneB Ss listed = true →
      wpAnyL P md ops Q S0 Ss fuel (listed.setIfInBounds i true) (a.put oi.dst v) w → wpAnyL P md ops Q S0 Ss (fuel + 1) listed a w := by
  intro fuel
  induction fuel with
  | zero =>
    intro listed a w _ hr hy hS _ H
    refine ⟨fun h => (by rw [h] at hr; cases hr), fun j hj => ?_⟩
    by_cases hji : j = i
    · subst hji; exact hy.wpOp hi hS ⟨.inl hS, H⟩
    · have := ready_mono hj hji
      rw [H.1] at this
      cases this
  | succ fuel ih =>
    intro listed a w hfree hr hy hS hno H
    refine ⟨fun h => (by rw [h] at hr; cases hr), fun j hj => ?_⟩
    by_cases hji : j = i
    · subst hji; exact hy.wpOp hi hS ⟨.inl hS, H⟩
    · have h1 := H.2 j (ready_mono hj hji)
      obtain ⟨hjun, oj, hoj, hall⟩ := mem_ready.1 hj
      have hnot : ∀ e ∈ oj.after, Region.binds md e = true → e.on ≠ i := fun e he hb heq => by
        have h1 := hall e he hb
        have h0 := (mem_ready.1 hr).1
        rw [heq] at h1
        rcases Nat.lt_or_ge i listed.size with h' | h'
        · simp [h'] at h0 h1; rw [h0] at h1; cases h1
        · simp [Array.getElem?_eq_none h'] at h1
      have hjS : Ss.contains j = false := by
        rcases hc : Ss.contains j with _ | _
        · rfl
        · have hm := List.all_eq_true.1 hwt j (by simpa using hc)
          rw [hoj] at hm
          obtain ⟨e, he, hb⟩ := Array.any_eq_true'.1 hm
          rw [Bool.and_eq_true] at hb
          exact absurd (by simpa using hb.2) (hnot e he hb.1)
      have h2 := wpOp_putIf hoj (hfree j oj hoj hji hjun hnot) (fun cs b => hsel i oi cs b hi) (fun cs b => hsel j oj cs b hoj) hQ hy h1
      have hfree' : ∀ k ok, ops[k]? = some ok → k ≠ i → (listed.setIfInBounds j true).getD k true = false →
          (∀ e ∈ ok.after, Region.binds md e = true → e.on ≠ i) → oi.apart ops ok = true := fun k ok hk hki hun hno => by
        refine hfree k ok hk hki ?_ hno
        by_cases hjk : j = k
        · subst hjk; exact hjun
        · rw [getD_set_ne true hjk] at hun; exact hun
      have hn2 : noneB Ss (listed.setIfInBounds j true) = true := any_none (by rw [any_set hjS]; exact none_any hno)
      refine wpOp_mono (fun a' w' h3 => ?_) h2
      have hS' : S0 w' := by
        rcases h3.2.1 with h | h
        · exact h
        · rw [any_set hjS, any_set hSi, none_any hno] at h; cases h
      refine ⟨.inl hS', ih (listed.setIfInBounds j true) a' w' hfree' (ready_mono hr (Ne.symm hji)) h3.1 hS' hn2 ?_⟩
      rw [Array.setIfInBounds_comm _ _ hji]
      exact h3.2.2
/-- an operation that yields in whatever world, before or behind the stores -/
theorem wpAnyL_any {i : Nat} {oi : Oper} {v : Value} (hi : ops[i]? = some oi) (hsel : ∀ (j : Nat) (o : Oper) cs b, ops[j]? = some o → o.op ≠ .select cs b)
    (hQ : ∀ c a w, Q (.panic c) (a.put oi.dst v) w → Q (.panic c) a w) (hSi : Ss.contains i = false) :
    ∀ (fuel : Nat) (listed : Array Bool) (a : Act) (w : World),
      (∀ j oj, ops[j]? = some oj → j ≠ i → listed.getD j true = false → (∀ e ∈ oj.after, Region.binds md e = true → e.on ≠ i) → oi.apart ops oj = true) →
      i ∈ Region.ready md ops listed → YieldsIf P ops (fun _ => True) oi v a → PhS S0 Ss listed w →
      wpAnyL P md ops Q S0 Ss fuel (listed.setIfInBounds i true) (a.put oi.dst v) w → wpAnyL P md ops Q S0 Ss (fuel + 1) listed a w := by
  intro fuel
  induction fuel with
  | zero =>
    intro listed a w _ hr hy hS H
    refine ⟨fun h => (by rw [h] at hr; cases hr), fun j hj => ?_⟩
    by_cases hji : j = i
    · subst hji; exact hy.wpOp hi trivial ⟨by unfold PhS; rw [any_set hSi]; exact hS, H⟩
    · have := ready_mono hj hji
      rw [H.1] at this
      cases this
  | succ fuel ih =>
    intro listed a w hfree hr hy hS H
    refine ⟨fun h => (by rw [h] at hr; cases hr), fun j hj => ?_⟩
    by_cases hji : j = i
    · subst hji; exact hy.wpOp hi trivial ⟨by unfold PhS; rw [any_set hSi]; exact hS, H⟩
    · have h1 := H.2 j (ready_mono hj hji)
      obtain ⟨hjun, oj, hoj, hall⟩ := mem_ready.1 hj
      have hnot : ∀ e ∈ oj.after, Region.binds md e = true → e.on ≠ i := fun e he hb heq => by
        have h1 := hall e he hb
        have h0 := (mem_ready.1 hr).1
        rw [heq] at h1
        rcases Nat.lt_or_ge i listed.size with h' | h'
        · simp [h'] at h0 h1; rw [h0] at h1; cases h1
        · simp [Array.getElem?_eq_none h'] at h1
      have h2 := wpOp_putIf hoj (hfree j oj hoj hji hjun hnot) (fun cs b => hsel i oi cs b hi) (fun cs b => hsel j oj cs b hoj) hQ hy h1
      have hfree' : ∀ k ok, ops[k]? = some ok → k ≠ i → (listed.setIfInBounds j true).getD k true = false →
          (∀ e ∈ ok.after, Region.binds md e = true → e.on ≠ i) → oi.apart ops ok = true := fun k ok hk hki hun hno => by
        refine hfree k ok hk hki ?_ hno
        by_cases hjk : j = k
        · subst hjk; exact hjun
        · rw [getD_set_ne true hjk] at hun; exact hun
      refine wpOp_mono (fun a' w' h3 => ?_) h2
      have hS' : PhS S0 Ss (listed.setIfInBounds j true) w' := by
        rcases h3.2.1 with h | h
        · exact .inl h
        · rw [Array.setIfInBounds_comm _ _ (Ne.symm hji), any_set hSi] at h; exact .inr h
      refine ⟨hS', ih (listed.setIfInBounds j true) a' w' hfree' (ready_mono hr (Ne.symm hji)) h3.1 hS' ?_⟩
      rw [Array.setIfInBounds_comm _ _ hji]
      exact h3.2.2
/-- the beginning -/
theorem wp_region_L {id : Nat} {a : Act} {w : World} (S0 : World → Prop) (Ss : List Nat) (hm : P.follows .mixedOrders = true) (hS : S0 w.drew)
    (h : S0 w.drew → wpAnyL P .any ops Q S0 Ss ops.size (Array.replicate ops.size false) a w.drew) : (Code.region id ops true).wp P Q a w :=
  wp_region_any hm (wpAny_of_L _ _ _ _ (h hS))
/-- a step that only reads is taken, ahead of the stores -/
theorem tkL (i : Nat) (d : Option Tmp) {b : Op} {t : TypeId} {p : String} {f : Array Edge} {g : Option (Nat × Bool)} {v : Value} {fuel : Nat} {listed : Array Bool} {a : Act} {w : World}
    (hv : ∀ w, S0 w → (execOp a.eval { dst := d, op := b, type := t, pos := p, after := f, guard := g }).run P w = .ok (.value v) w)
    (h : wpAnyL P md ops Q S0 Ss fuel (listed.setIfInBounds i true) (a.put d v) w)
    (hi : ops[i]? = some { dst := d, op := b, type := t, pos := p, after := f, guard := g } := by rfl)
    (hS : S0 w := by assumption) (hSi : Ss.contains i = false := by kernel_rfl) (hwt : waitB md ops Ss i = true := by kernel_rfl) (hno : noneB Ss listed = true := by kernel_rfl)
    (hs : Region.noSelect ops = true := by kernel_rfl) (hf : Region.free md ops listed i = true := by kernel_rfl) (hr : (Region.ready md ops listed).contains i = true := by kernel_rfl)
    (hQ : ∀ c a w, Q (.panic c) (a.put d v) w → Q (.panic c) a w := by exact fun _ _ _ h => h)
    (hw : Region.wanted { dst := d, op := b, type := t, pos := p, after := f, guard := g } (yielded ops a.tmps) = true := by rfl) :
    wpAnyL P md ops Q S0 Ss (fuel + 1) listed a w := wpAnyL_first (oi := { dst := d, op := b, type := t, pos := p, after := f, guard := g }) hi (Region.noSelect_spec hs) hQ hSi hwt fuel listed a w (Region.free_spec hi hf) (by simpa using hr) (Or.inl ⟨hw, hv⟩) hS hno h
/-- a step that yields in whatever world is taken -/
theorem tkA (i : Nat) (d : Option Tmp) {b : Op} {t : TypeId} {p : String} {f : Array Edge} {g : Option (Nat × Bool)} {v : Value} {fuel : Nat} {listed : Array Bool} {a : Act} {w : World}
    (hv : ∀ w, True → (execOp a.eval { dst := d, op := b, type := t, pos := p, after := f, guard := g }).run P w = .ok (.value v) w)
    (h : wpAnyL P md ops Q S0 Ss fuel (listed.setIfInBounds i true) (a.put d v) w)
    (hi : ops[i]? = some { dst := d, op := b, type := t, pos := p, after := f, guard := g } := by rfl)
    (hS : PhS S0 Ss listed w := by assumption) (hSi : Ss.contains i = false := by kernel_rfl)
    (hs : Region.noSelect ops = true := by kernel_rfl) (hf : Region.free md ops listed i = true := by kernel_rfl) (hr : (Region.ready md ops listed).contains i = true := by kernel_rfl)
    (hQ : ∀ c a w, Q (.panic c) (a.put d v) w → Q (.panic c) a w := by exact fun _ _ _ h => h)
    (hw : Region.wanted { dst := d, op := b, type := t, pos := p, after := f, guard := g } (yielded ops a.tmps) = true := by rfl) :
    wpAnyL P md ops Q S0 Ss (fuel + 1) listed a w := wpAnyL_any (oi := { dst := d, op := b, type := t, pos := p, after := f, guard := g }) hi (Region.noSelect_spec hs) hQ hSi fuel listed a w (Region.free_spec hi hf) (by simpa using hr) (Or.inl ⟨hw, hv⟩) hS h
/-- the one operation that may come up does: a call, behind which what the loads lean on is shown anew -/
theorem callL (i : Nat) {o : Oper} {fuel : Nat} {listed : Array Bool} {a : Act} {w : World}
    (h : ∀ K' : Act → World → Prop, Shut (∀ a w, S0 w → (S0 w → wpAnyL P md ops Q S0 Ss fuel (listed.setIfInBounds i true) a w) → K' a w) → if Region.wanted o (yielded ops a.tmps) = true then Oper.wp P o a w K' Q else K' (a.put o.dst undef) w)
    (hr : Region.ready md ops listed = [i] := by kernel_rfl) (ho : ops[i]? = some o := by rfl) : wpAnyL P md ops Q S0 Ss (fuel + 1) listed a w := by
  refine ⟨fun h0 => (by rw [h0] at hr; cases hr), fun j hj => ?_⟩
  rw [hr] at hj
  obtain rfl : j = i := by simpa using hj
  exact wpOp_step ho (fun K' hK => h K' (fun a w hS hW => hK a w ⟨.inl hS, hW hS⟩))
/-- the one operation that may come up does: a store -/
theorem storeL (i : Nat) {o : Oper} {fuel : Nat} {listed : Array Bool} {a : Act} {w : World}
    (h : ∀ K' : Act → World → Prop, Shut (∀ a w, (PhS S0 Ss (listed.setIfInBounds i true) w → wpAnyL P md ops Q S0 Ss fuel (listed.setIfInBounds i true) a w) → K' a w) → if Region.wanted o (yielded ops a.tmps) = true then Oper.wp P o a w K' Q else K' (a.put o.dst undef) w)
    (hr : Region.ready md ops listed = [i] := by kernel_rfl) (ho : ops[i]? = some o := by rfl) (hst : Ss.any (fun s => (listed.setIfInBounds i true).getD s false) = true := by kernel_rfl) : wpAnyL P md ops Q S0 Ss (fuel + 1) listed a w := by
  refine ⟨fun h0 => (by rw [h0] at hr; cases hr), fun j hj => ?_⟩
  rw [hr] at hj
  obtain rfl : j = i := by simpa using hj
  exact wpOp_step ho (fun K' hK => h K' (fun a w hW => hK a w ⟨.inr hst, hW (.inr hst)⟩))
theorem doneL {listed : Array Bool} {a : Act} {w : World} (hr : Region.ready md ops listed = []) (h : Q .normal a w) : ∀ fuel, wpAnyL P md ops Q S0 Ss fuel listed a w
  | 0 => ⟨hr, h⟩
  | _ + 1 => ⟨fun _ => h, by rw [hr]; simp⟩
end
end Go.Proofs.YtmlbphmbffkdnaaGreat
