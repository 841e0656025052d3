/-
  Texts of the proof, what it needs of them: Wai.
-/
import Derived.Test.YtmlbphmbffkdnaaGreatGz34
namespace Go.Proofs.YtmlbphmbffkdnaaGreat
open Go.RowKit
set_option linter.unusedVariables false

/-- how many have not come up -/
def openA (n : Nat) (listed : Array Bool) : Nat := ((List.range n).filter (fun i => !(listed.getD i false))).length
theorem openA_set {n i : Nat} {listed : Array Bool} (hi : i < n) (hl : i < listed.size) (h0 : listed.getD i false = false) : openA n listed = openA n (listed.setIfInBounds i true) + 1 :=
  openR_set (rs := List.range n) List.nodup_range (List.mem_range.2 hi) hl h0
section
variable {P : Program} {ops : Array Oper} {Q : Exit → Act → World → Prop} {md : Region.Mode} {S : World → Prop}
def WA (P : Program) (md : Region.Mode) (ops : Array Oper) (Q : Exit → Act → World → Prop) (S : World → Prop) (listed : Array Bool) (a : Act) (w : World) : Prop :=
  wpAnyH P md ops Q S (openA ops.size listed) listed a w
theorem WA.of {listed : Array Bool} {a : Act} {w : World} {k : Nat} (h : WA P md ops Q S listed a w) (hk : k = openA ops.size listed) : wpAnyH P md ops Q S k listed a w := by subst hk; exact h
theorem WA.mk {listed : Array Bool} {a : Act} {w : World} (k : Nat) (h : wpAnyH P md ops Q S k listed a w) (hk : openA ops.size listed = k := by kernel_rfl) : WA P md ops Q S listed a w := by unfold WA; rw [hk]; exact h
/-- a step that only reads is taken -/
theorem tkW (i : Nat) (d : Option Tmp) {b : Op} {t : TypeId} {p : String} {f : Array Edge} {g : Option (Nat × Bool)} {v : Value} {listed : Array Bool} {a : Act} {w : World}
    (hv : ∀ w, S w → (execOp a.eval { dst := d, op := b, type := t, pos := p, after := f, guard := g }).run P w = .ok (.value v) w)
    (h : WA P md ops Q S (listed.setIfInBounds i true) (a.put d v) w)
    (hi : ops[i]? = some { dst := d, op := b, type := t, pos := p, after := f, guard := g } := by rfl)
    (hS : S w := by assumption) (hs : Region.noSelect ops = true := by kernel_rfl) (hf : Region.free md ops listed i = true := by kernel_rfl) (hr : (Region.ready md ops listed).contains i = true := by kernel_rfl)
    (hQ : ∀ c a w, Q (.panic c) (a.put d v) w → Q (.panic c) a w := by exact fun _ _ _ h => h)
    (hw : Region.wanted { dst := d, op := b, type := t, pos := p, after := f, guard := g } (yielded ops a.tmps) = true := by rfl)
    (hu : (decide (i < listed.size) && (decide (i < ops.size) && !(listed.getD i false))) = true := by rfl) :
    WA P md ops Q S listed a w := by
  simp only [Bool.and_eq_true, decide_eq_true_eq, Bool.not_eq_true'] at hu
  unfold WA
  rw [openA_set hu.2.1 hu.1 hu.2.2]
  exact wpAnyH_take (oi := { dst := d, op := b, type := t, pos := p, after := f, guard := g }) hi hs hf hr hQ (Or.inl ⟨hw, hv⟩) hS h
/-- each of these operations leads on -/
def StepsW (P : Program) (md : Region.Mode) (ops : Array Oper) (Q : Exit → Act → World → Prop) (S : World → Prop) (I : Array Bool → Act → World → Prop) (rs0 rs : List Nat) : Prop :=
  ∀ i, i ∈ rs → ∀ o, ops[i]? = some o → ∀ listed a w, I listed a w → listed.getD i true = false → depsB md o listed = true →
    (∀ listed' a' w', I listed' a' w' → openR rs0 listed' < openR rs0 listed → WA P md ops Q S listed' a' w') →
    wpOp P ops Q i (fun a' w' => S w' ∧ WA P md ops Q S (listed.setIfInBounds i true) a' w') a w
theorem StepsW.nil {I : Array Bool → Act → World → Prop} {rs0 : List Nat} : StepsW P md ops Q S I rs0 [] := fun i hi => absurd hi (by simp)
theorem StepsW.cons {I : Array Bool → Act → World → Prop} {rs0 : List Nat} {i : Nat} {o : Oper} {rs : List Nat} (ho : ops[i]? = some o)
    (h : ∀ listed a w, I listed a w → listed.getD i true = false → depsB md o listed = true →
      (∀ listed' a' w', I listed' a' w' → openR rs0 listed' < openR rs0 listed → WA P md ops Q S listed' a' w') →
      ∀ K' : Act → World → Prop, Shut (∀ a w, S w → (S w → WA P md ops Q S (listed.setIfInBounds i true) a w) → K' a w) → if Region.wanted o (yielded ops a.tmps) = true then Oper.wp P o a w K' Q else K' (a.put o.dst undef) w)
    (t : StepsW P md ops Q S I rs0 rs) : StepsW P md ops Q S I rs0 (i :: rs) := fun j hj => by
  rcases List.mem_cons.1 hj with rfl | hj
  · intro o' ho' listed a w hI hun hd ih
    rw [ho] at ho'
    cases ho'
    exact wpOp_step ho (fun K' hK => h listed a w hI hun hd ih K' (fun a w hS hI' => hK a w ⟨hS, hI' hS⟩))
  · exact t j hj
/-- the beginning -/
theorem wp_region_W {id : Nat} {a : Act} {w : World} (S : World → Prop) (hm : P.follows .mixedOrders = true) (hS : S w.drew)
    (h : S w.drew → WA P .any ops Q S (Array.replicate ops.size false) a w.drew) (hk : openA ops.size (Array.replicate ops.size false) = ops.size := by kernel_rfl) : (Code.region id ops true).wp P Q a w :=
  wp_region_held_drew (S := S) hm hS (fun h1 => by have := h h1; unfold WA at this; rw [hk] at this; exact this)
theorem doneW {listed : Array Bool} {a : Act} {w : World} (h : Q .normal a w) (hr : Region.ready md ops listed = [] := by kernel_rfl) : WA P md ops Q S listed a w := wpAnyH_done hr h _
/-- the one operation that may come up does -/
theorem oneW (i : Nat) {o : Oper} {listed : Array Bool} {a : Act} {w : World}
    (h : ∀ K' : Act → World → Prop, Shut (∀ a w, S w → (S w → WA P md ops Q S (listed.setIfInBounds i true) a w) → K' a w) → if Region.wanted o (yielded ops a.tmps) = true then Oper.wp P o a w K' Q else K' (a.put o.dst undef) w)
    (hr : Region.ready md ops listed = [i] := by kernel_rfl) (ho : ops[i]? = some o := by rfl)
    (hu : (decide (i < listed.size) && (decide (i < ops.size) && !(listed.getD i false))) = true := by rfl) : WA P md ops Q S listed a w := by
  simp only [Bool.and_eq_true, decide_eq_true_eq, Bool.not_eq_true'] at hu
  unfold WA
  rw [openA_set hu.2.1 hu.1 hu.2.2]
  refine ⟨fun h0 => (by rw [h0] at hr; cases hr), fun j hj => ?_⟩
  rw [hr] at hj
  obtain rfl : j = i := by simpa using hj
  exact wpOp_step ho (fun K' hK => h K' (fun a w hS hW => hK a w ⟨hS, hW hS⟩))
end
/-- a block of one value's cells -/
theorem boxRow {w : World} {base g t n : Nat} {cs : List Value} (h : w.ownsRow base t n (.slice (some ⟨g, 0, none⟩) 1 1) 1 cs) : Box w g cs := by
  intro j v hv
  have hl : j < 1 * n := by
    have h1 := (List.getElem?_eq_some_iff.1 hv).1
    have h2 := h.1
    omega
  exact ⟨by rw [h.cellAt j hl]; exact hv, h.frozenAt j⟩
end Go.Proofs.YtmlbphmbffkdnaaGreat
