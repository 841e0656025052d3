/-
  Texts of the proof, what it needs of them: Wai.
-/
import Derived.Test.YtmlbphmbffkdnaaGreatGh31
namespace Go.Proofs.YtmlbphmbffkdnaaGreat
open Go.RowKit
set_option linter.unusedVariables false

/-- how many have not come up -/
def openA (n : Nat) (listed : Array Bool) : Nat := ((List.range n).filter (fun i => !(listed.getD i false))).length
theorem openA_set {n i : Nat} {listed : Array Bool} (hi : i < n) (hl : i < listed.size) (h0 : listed.getD i false = false) : openA n listed = openA n (listed.setIfInBounds i true) + 1 :=
  openR_set (rs := List.range n) List.nodup_range (List.mem_range.2 hi) hl h0
section
variable {P : Program} {ops : Array Oper} {Q : Exit → Act → World → Prop} {md : Region.Mode} {S : World → Prop}
def WA (P : Program) (md : Region.Mode) (ops : Array Oper) (Q : Exit → Act → World → Prop) (S : World → Prop) (listed : Array Bool) (a : Act) (w : World) : Prop :=
  wpAnyH P md ops Q S (openA ops.size listed) listed a w
theorem WA.of {listed : Array Bool} {a : Act} {w : World} {k : Nat} (h : WA P md ops Q S listed a w) (hk : k = openA ops.size listed) : wpAnyH P md ops Q S k listed a w := by subst hk; exact h
theorem WA.mk {listed : Array Bool} {a : Act} {w : World} (k : Nat) (h : wpAnyH P md ops Q S k listed a w) (hk : openA ops.size listed = k := by kernel_rfl) : WA P md ops Q S listed a w := by unfold WA; rw [hk]; exact h
/-- all rs have come up, or some may, and none but these -/
def goodB (md : Region.Mode) (ops : Array Oper) (rs : List Nat) (listed : Array Bool) : Bool :=
  rs.all (fun i => listed.getD i false) || (!(Region.ready md ops listed).isEmpty && (Region.ready md ops listed).all (fun i => rs.contains i))
/-- a step that only reads is taken -/
theorem tkW (i : Nat) (d : Option Tmp) {b : Op} {t : TypeId} {p : String} {f : Array Edge} {g : Option (Nat × Bool)} {v : Value} {listed : Array Bool} {a : Act} {w : World}
    (hv : ∀ w, S w → (execOp a.eval { dst := d, op := b, type := t, pos := p, after := f, guard := g }).run P w = .ok (.value v) w)
    (h : WA P md ops Q S (listed.setIfInBounds i true) (a.put d v) w)
    (hi : ops[i]? = some { dst := d, op := b, type := t, pos := p, after := f, guard := g } := by rfl)
    (hS : S w := by assumption) (hs : Region.noSelect ops = true := by kernel_rfl) (hf : Region.free md ops listed i = true := by kernel_rfl) (hr : (Region.ready md ops listed).contains i = true := by kernel_rfl)
    (hQ : ∀ c a w, Q (.panic c) (a.put d v) w → Q (.panic c) a w := by exact fun _ _ _ h => h)
    (hw : Region.wanted { dst := d, op := b, type := t, pos := p, after := f, guard := g } (yielded ops a.tmps) = true := by rfl)
    (hu : (decide (i < listed.size) && (decide (i < ops.size) && !(listed.getD i false))) = true := by rfl) :
    WA P md ops Q S listed a w := by
  simp only [Bool.and_eq_true, decide_eq_true_eq, Bool.not_eq_true'] at hu
  unfold WA
  rw [openA_set hu.2.1 hu.1 hu.2.2]
  exact wpAnyH_take (oi := { dst := d, op := b, type := t, pos := p, after := f, guard := g }) hi hs hf hr hQ (Or.inl ⟨hw, hv⟩) hS h
/-- each of these operations leads on -/
def StepsW (P : Program) (md : Region.Mode) (ops : Array Oper) (Q : Exit → Act → World → Prop) (S : World → Prop) (I : Array Bool → Act → World → Prop) (rs0 rs : List Nat) : Prop :=
  ∀ i, i ∈ rs → ∀ o, ops[i]? = some o → ∀ listed a w, I listed a w → listed.getD i true = false → depsB md o listed = true →
    (∀ listed' a' w', I listed' a' w' → openR rs0 listed' < openR rs0 listed → WA P md ops Q S listed' a' w') →
    wpOp P ops Q i (fun a' w' => S w' ∧ WA P md ops Q S (listed.setIfInBounds i true) a' w') a w
theorem StepsW.nil {I : Array Bool → Act → World → Prop} {rs0 : List Nat} : StepsW P md ops Q S I rs0 [] := fun i hi => absurd hi (by simp)
theorem StepsW.cons {I : Array Bool → Act → World → Prop} {rs0 : List Nat} {i : Nat} {o : Oper} {rs : List Nat} (ho : ops[i]? = some o)
    (h : ∀ listed a w, I listed a w → listed.getD i true = false → depsB md o listed = true →
      (∀ listed' a' w', I listed' a' w' → openR rs0 listed' < openR rs0 listed → WA P md ops Q S listed' a' w') →
      ∀ K' : Act → World → Prop, Shut (∀ a w, S w → (S w → WA P md ops Q S (listed.setIfInBounds i true) a w) → K' a w) → if Region.wanted o (yielded ops a.tmps) = true then Oper.wp P o a w K' Q else K' (a.put o.dst undef) w)
    (t : StepsW P md ops Q S I rs0 rs) : StepsW P md ops Q S I rs0 (i :: rs) := fun j hj => by
  rcases List.mem_cons.1 hj with rfl | hj
  · intro o' ho' listed a w hI hun hd ih
    rw [ho] at ho'
    cases ho'
    exact wpOp_step ho (fun K' hK => h listed a w hI hun hd ih K' (fun a w hS hI' => hK a w ⟨hS, hI' hS⟩))
  · exact t j hj
theorem WA.inv {a0 : Act} {listed0 : Array Bool} {w0 : World} (J : Act → Array Bool → Act → World → Prop) (rs : List Nat) (h0 : J a0 listed0 a0 w0)
    (hgood : ∀ listed a w, J a0 listed a w → listed.size = ops.size ∧ goodB md ops rs listed = true)
    (hstep : StepsW P md ops Q S (J a0) rs rs)
    (hend : ∀ listed a w, J a0 listed a w → (∀ i, i ∈ rs → listed.getD i false = true) → WA P md ops Q S listed a w) :
    WA P md ops Q S listed0 a0 w0 := by
  have key : ∀ (n : Nat) (listed : Array Bool) (a : Act) (w : World), J a0 listed a w → openR rs listed ≤ n → WA P md ops Q S listed a w := by
    intro n
    induction n with
    | zero =>
      intro listed a w hI hn
      refine hend listed a w hI fun i hi => ?_
      have h1 : openR rs listed = 0 := by omega
      unfold openR at h1
      have := List.eq_nil_of_length_eq_zero h1
      rcases e : listed.getD i false with _ | _
      · have hm : i ∈ rs.filter (fun i => !(listed.getD i false)) := List.mem_filter.2 ⟨hi, by rw [e]; rfl⟩
        rw [this] at hm; cases hm
      · rfl
    | succ n ih =>
      intro listed a w hI hn
      by_cases hall : ∀ i, i ∈ rs → listed.getD i false = true
      · exact hend listed a w hI hall
      obtain ⟨hsz, hg⟩ := hgood listed a w hI
      unfold goodB at hg
      rw [Bool.or_eq_true] at hg
      rcases hg with hg | hg
      · exact absurd (fun i hi => List.all_eq_true.1 hg i hi) hall
      rw [Bool.and_eq_true] at hg
      have hne : Region.ready md ops listed ≠ [] := fun e => by rw [e] at hg; simp at hg
      obtain ⟨i0, hi0⟩ := List.exists_mem_of_ne_nil _ hne
      obtain ⟨hun0, o0, ho0, -⟩ := mem_ready.1 hi0
      have hio0 : i0 < ops.size := (Array.getElem?_eq_some_iff.1 ho0).1
      have hgd : ∀ i, i < ops.size → listed.getD i true = listed.getD i false := fun i hi => by
        have : i < listed.size := by omega
        simp [this]
      unfold WA
      have hpos : openA ops.size listed = openA ops.size (listed.setIfInBounds i0 true) + 1 := openA_set hio0 (by omega) (by rw [← hgd i0 hio0]; exact hun0)
      rw [hpos]
      refine ⟨fun h => absurd h hne, fun i hi => ?_⟩
      obtain ⟨hun, o, ho, hdep⟩ := mem_ready.1 hi
      have hio : i < ops.size := (Array.getElem?_eq_some_iff.1 ho).1
      have hir : i ∈ rs := by simpa using List.all_eq_true.1 hg.2 i hi
      have hfu : openA ops.size (listed.setIfInBounds i0 true) = openA ops.size (listed.setIfInBounds i true) := by
        have := openA_set hio (by omega : i < listed.size) (by rw [← hgd i hio]; exact hun)
        omega
      rw [hfu]
      refine hstep i hir o ho listed a w hI hun ?_ (fun listed' a' w' hI' hlt => ih listed' a' w' hI' (by omega))
      unfold depsB
      rw [List.all_eq_true]
      intro e he
      rcases hb : Region.binds md e with _ | _
      · rfl
      · rw [hdep e (by simpa using he) hb]; rfl
  exact key _ listed0 a0 w0 h0 (Nat.le_refl _)
/-- the beginning -/
theorem wp_region_W {id : Nat} {a : Act} {w : World} (S : World → Prop) (hm : P.follows .mixedOrders = true) (hS : S w.drew)
    (h : S w.drew → WA P .any ops Q S (Array.replicate ops.size false) a w.drew) (hk : openA ops.size (Array.replicate ops.size false) = ops.size := by kernel_rfl) : (Code.region id ops true).wp P Q a w :=
  wp_region_held_drew (S := S) hm hS (fun h1 => by have := h h1; unfold WA at this; rw [hk] at this; exact this)
theorem doneW {listed : Array Bool} {a : Act} {w : World} (h : Q .normal a w) (hr : Region.ready md ops listed = [] := by kernel_rfl) : WA P md ops Q S listed a w := wpAnyH_done hr h _
/-- the one operation that may come up does -/
theorem oneW (i : Nat) {o : Oper} {listed : Array Bool} {a : Act} {w : World}
    (h : ∀ K' : Act → World → Prop, Shut (∀ a w, S w → (S w → WA P md ops Q S (listed.setIfInBounds i true) a w) → K' a w) → if Region.wanted o (yielded ops a.tmps) = true then Oper.wp P o a w K' Q else K' (a.put o.dst undef) w)
    (hr : Region.ready md ops listed = [i] := by kernel_rfl) (ho : ops[i]? = some o := by rfl)
    (hu : (decide (i < listed.size) && (decide (i < ops.size) && !(listed.getD i false))) = true := by rfl) : WA P md ops Q S listed a w := by
  simp only [Bool.and_eq_true, decide_eq_true_eq, Bool.not_eq_true'] at hu
  unfold WA
  rw [openA_set hu.2.1 hu.1 hu.2.2]
  refine ⟨fun h0 => (by rw [h0] at hr; cases hr), fun j hj => ?_⟩
  rw [hr] at hj
  obtain rfl : j = i := by simpa using hj
  exact wpOp_step ho (fun K' hK => h K' (fun a w hS hW => hK a w ⟨hS, hW hS⟩))
end
/-- a block of one value's cells -/
theorem boxRow {w : World} {base g t n : Nat} {cs : List Value} (h : w.ownsRow base t n (.slice (some ⟨g, 0, none⟩) 1 1) 1 cs) : Box w g cs := by
  intro j v hv
  have hl : j < 1 * n := by
    have h1 := (List.getElem?_eq_some_iff.1 hv).1
    have h2 := h.1
    omega
  exact ⟨by rw [h.cellAt j hl]; exact hv, h.frozenAt j⟩
end Go.Proofs.YtmlbphmbffkdnaaGreat
