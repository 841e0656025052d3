/-
  Texts of the proof, what it needs of them: Inv.
-/
import Derived.Deep.AppendLies
import Derived.Deep.RegionHeld3
import Derived.Laws.AppendOwnNone
import Derived.Test.YtmlbphmbffkdnaaGt01
namespace Go.Proofs.Ytmlbphmbffkdnaa
open Go.RowKit
set_option linter.unusedVariables false

/-- each binding edge of these points back -/
def backB (md : Region.Mode) (ops : Array Oper) (rs : List Nat) : Bool := rs.all (fun i => match ops[i]? with
  | some o => o.after.all (fun e => !(Region.binds md e) || decide (e.on < i))
  | none => false)
/-- each of these is one of rs, or late, or has come up -/
def restB (rs late : List Nat) (n : Nat) (listed : Array Bool) : Bool := (List.range n).all (fun i => rs.contains i || (late.contains i || listed.getD i true))
/-- edges of rs are on what is not late -/
def earlyB (md : Region.Mode) (ops : Array Oper) (rs late : List Nat) : Bool := rs.all (fun i => match ops[i]? with
  | some o => o.after.all (fun e => !(Region.binds md e) || !(late.contains e.on))
  | none => false)
def openR (rs : List Nat) (listed : Array Bool) : Nat := (rs.filter (fun i => !(listed.getD i false))).length
theorem openR_set {rs : List Nat} {listed : Array Bool} {i : Nat} (hn : rs.Nodup) (hi : i ∈ rs) (hl : i < listed.size) (h0 : listed.getD i false = false) : openR rs listed = openR rs (listed.setIfInBounds i true) + 1 := by
  unfold openR
  induction rs with
  | nil => cases hi
  | cons x t ih =>
    obtain ⟨hx, ht⟩ := List.nodup_cons.1 hn
    rcases List.mem_cons.1 hi with rfl | hi
    · have e1 : (listed.setIfInBounds i true).getD i false = true := by simp [hl]
      have e2 : t.filter (fun j => !((listed.setIfInBounds i true).getD j false)) = t.filter (fun j => !(listed.getD j false)) := by
        apply List.filter_congr
        intro j hj
        rw [getD_set_ne false (fun e => hx (by rw [e]; exact hj))]
      rw [List.filter_cons_of_pos (by rw [h0]; rfl), List.filter_cons_of_neg (by rw [e1]; simp), e2]
      rfl
    · have hne : i ≠ x := fun e => hx (by rw [← e]; exact hi)
      rw [List.filter_cons, List.filter_cons, getD_set_ne false hne]
      cases listed.getD x false
      · simp only [Bool.not_false, if_true, List.length_cons]
        rw [ih ht hi]
      · simp only [Bool.not_true, Bool.false_eq_true, if_false]
        exact ih ht hi
section
variable {P : Program} {ops : Array Oper} {Q : Exit → Act → World → Prop} {md : Region.Mode} {S : World → Prop}
theorem wpAnyH_inv (I : Array Bool → Act → World → Prop) (rs late : List Nat) (f0 : Nat) (hn : rs.Nodup) (hback : backB md ops rs = true) (hearly : earlyB md ops rs late = true)
    (hlate : rs.all (fun i => waitB md ops late i) = true)
    (hrest : ∀ listed a w, I listed a w → listed.size = ops.size ∧ restB rs late ops.size listed = true)
    (hstep : ∀ i, i ∈ rs → ∀ o, ops[i]? = some o → ∀ listed a w, I listed a w → listed.getD i true = false → (∀ e ∈ o.after, Region.binds md e = true → listed.getD e.on false = true) →
      wpOp P ops Q i (fun a' w' => S w' ∧ I (listed.setIfInBounds i true) a' w') a w)
    (hend : ∀ listed a w, I listed a w → (∀ i, i ∈ rs → listed.getD i false = true) → wpAnyH P md ops Q S f0 listed a w) :
    ∀ (fuel : Nat) (listed : Array Bool) (a : Act) (w : World), I listed a w → fuel = openR rs listed + f0 → wpAnyH P md ops Q S fuel listed a w := by
  intro fuel
  induction fuel with
  | zero =>
    intro listed a w hI hf
    have h0 : openR rs listed = 0 := by omega
    have hall : ∀ i, i ∈ rs → listed.getD i false = true := fun i hi => by
      unfold openR at h0
      have := List.eq_nil_of_length_eq_zero h0
      rcases e : listed.getD i false with _ | _
      · have hm : i ∈ rs.filter (fun i => !(listed.getD i false)) := List.mem_filter.2 ⟨hi, by rw [e]; rfl⟩
        rw [this] at hm; cases hm
      · rfl
    have he := hend listed a w hI hall
    rw [show f0 = 0 by omega] at he
    exact he
  | succ fuel ih =>
    intro listed a w hI hf
    by_cases hall : ∀ i, i ∈ rs → listed.getD i false = true
    · have he := hend listed a w hI hall
      have h0 : openR rs listed = 0 := by
        unfold openR
        rw [List.length_eq_zero_iff, List.filter_eq_nil_iff]
        intro i hi
        rw [hall i hi]; simp
      rw [show f0 = fuel + 1 by omega] at he
      exact he
    · obtain ⟨hsz, hrb⟩ := hrest listed a w hI
      -- the least of rs that has not come up may come up
      have hex : ∃ i, i ∈ rs ∧ listed.getD i false = false := by
        refine Classical.byContradiction fun hno => hall fun i hi => ?_
        rcases e : listed.getD i false with _ | _
        · exact absurd ⟨i, hi, e⟩ hno
        · rfl
      have hin : ∀ i, i ∈ rs → i < ops.size := fun i hi => by
        have h := List.all_eq_true.1 hback i hi
        rcases e : ops[i]? with _ | o
        · rw [e] at h; cases h
        · exact (Array.getElem?_eq_some_iff.1 e).1
      have hgd : ∀ i, i < ops.size → listed.getD i true = listed.getD i false := fun i hi => by
        have : i < listed.size := by omega
        simp [this]
      have hless : ∀ n, ∀ i, i ≤ n → i ∈ rs → listed.getD i false = false → Region.ready md ops listed ≠ [] := by
        intro n
        induction n with
        | zero =>
          intro i hi hr h0
          obtain rfl : i = 0 := by omega
          have hb := List.all_eq_true.1 hback 0 hr
          rcases e : ops[0]? with _ | o
          · rw [e] at hb; cases hb
          · rw [e] at hb
            have hm : 0 ∈ Region.ready md ops listed := mem_ready.2 ⟨by rw [hgd 0 (hin 0 hr)]; exact h0, o, e, fun x hx hbx => by
              have := Array.all_eq_true'.1 hb x hx
              rw [hbx] at this
              simp at this⟩
            exact fun hn => by rw [hn] at hm; cases hm
        | succ n ihn =>
          intro i hi hr h0
          have hb := List.all_eq_true.1 hback i hr
          have hea := List.all_eq_true.1 hearly i hr
          rcases e : ops[i]? with _ | o
          · rw [e] at hb; cases hb
          · rw [e] at hb hea
            by_cases hd : ∀ x ∈ o.after, Region.binds md x = true → listed.getD x.on false = true
            · have hm : i ∈ Region.ready md ops listed := mem_ready.2 ⟨by rw [hgd i (hin i hr)]; exact h0, o, e, hd⟩
              exact fun hn => by rw [hn] at hm; cases hm
            · obtain ⟨x, hx, hbx, hl⟩ : ∃ x, x ∈ o.after ∧ Region.binds md x = true ∧ listed.getD x.on false = false := by
                refine Classical.byContradiction fun hno => hd fun x hx hbx => ?_
                rcases e2 : listed.getD x.on false with _ | _
                · exact absurd ⟨x, hx, hbx, e2⟩ hno
                · rfl
              have h1 := Array.all_eq_true'.1 hb x hx
              have h2 := Array.all_eq_true'.1 hea x hx
              rw [hbx] at h1 h2
              have hlt : x.on < i := by simpa using h1
              have hnl : late.contains x.on = false := by simpa using h2
              have hxs : x.on < ops.size := Nat.lt_trans hlt (hin i hr)
              have h3 := List.all_eq_true.1 hrb x.on (List.mem_range.2 hxs)
              rw [hnl, hgd _ hxs, hl] at h3
              have hxr : x.on ∈ rs := by simpa using h3
              exact ihn x.on (by omega) hxr hl
      obtain ⟨i0, hi0, h0⟩ := hex
      have hne := hless i0 i0 (Nat.le_refl _) hi0 h0
      refine ⟨fun h => absurd h hne, fun i hi => ?_⟩
      obtain ⟨hun, o, ho, hdep⟩ := mem_ready.1 hi
      have hio : i < ops.size := (Array.getElem?_eq_some_iff.1 ho).1
      have hir : i ∈ rs := by
        have h3 := List.all_eq_true.1 hrb i (List.mem_range.2 hio)
        rw [hun] at h3
        rcases hc : rs.contains i with _ | _
        · rw [hc] at h3
          have hl : late.contains i = true := by simpa using h3
          have hw := List.all_eq_true.1 (List.all_eq_true.1 hlate i0 hi0) i (by simpa using hl)
          rw [ho] at hw
          obtain ⟨e, he, hb⟩ := Array.any_eq_true'.1 hw
          rw [Bool.and_eq_true] at hb
          have := hdep e he hb.1
          rw [show e.on = i0 by simpa using hb.2, h0] at this
          cases this
        · simpa using hc
      have hun2 : listed.getD i false = false := by rw [← hgd i hio]; exact hun
      refine wpOp_mono (fun a' w' h => ⟨h.1, ih _ a' w' h.2 ?_⟩) (hstep i hir o ho listed a w hI hun hdep)
      have := openR_set hn hir (by omega) hun2
      omega
end
section
variable {P : Program} {ops : Array Oper} {Q : Exit → Act → World → Prop} {md : Region.Mode} {S : World → Prop}
/-- what an operation waits for has come up -/
def depsB (md : Region.Mode) (o : Oper) (listed : Array Bool) : Bool := o.after.toList.all (fun e => !(Region.binds md e) || listed.getD e.on false)
/-- an operation that leaves a value and does nothing else -/
theorem step_value {o : Oper} {a : Act} {K : Act → World → Prop} {E : Prop} {w : World} {v : Value} (hw : Region.wanted o (yielded ops a.tmps) = true) (hv : (execOp a.eval o).run P w = .ok (.value v) w) (h : K (a.put o.dst v) w) :
    if Region.wanted o (yielded ops a.tmps) = true then Oper.wp P o a w K Q else E := by
  rw [if_pos hw]
  unfold Oper.wp
  rw [hv]
  exact h
/-- each of these operations keeps what holds -/
def StepsI (P : Program) (md : Region.Mode) (ops : Array Oper) (Q : Exit → Act → World → Prop) (S : World → Prop) (I : Array Bool → Act → World → Prop) (rs : List Nat) : Prop :=
  ∀ i, i ∈ rs → ∀ o, ops[i]? = some o → ∀ listed a w, I listed a w → listed.getD i true = false → depsB md o listed = true → wpOp P ops Q i (fun a' w' => S w' ∧ I (listed.setIfInBounds i true) a' w') a w
theorem StepsI.nil {I : Array Bool → Act → World → Prop} : StepsI P md ops Q S I [] := fun i hi => absurd hi (by simp)
theorem StepsI.cons {I : Array Bool → Act → World → Prop} {i : Nat} {o : Oper} {rs : List Nat} (ho : ops[i]? = some o)
    (h : ∀ listed a w, I listed a w → listed.getD i true = false → depsB md o listed = true → ∀ K' : Act → World → Prop, Shut (∀ a w, S w → I (listed.setIfInBounds i true) a w → K' a w) → if Region.wanted o (yielded ops a.tmps) = true then Oper.wp P o a w K' Q else K' (a.put o.dst undef) w)
    (t : StepsI P md ops Q S I rs) : StepsI P md ops Q S I (i :: rs) := fun j hj => by
  rcases List.mem_cons.1 hj with rfl | hj
  · intro o' ho' listed a w hI hun hd
    rw [ho] at ho'
    cases ho'
    exact wpOp_step ho (fun K' hK => h listed a w hI hun hd K' (fun a w hS hI' => hK a w ⟨hS, hI'⟩))
  · exact t j hj
theorem wpAnyH_steps {a0 : Act} {listed0 : Array Bool} {w0 : World} {fuel : Nat} (J : Act → Array Bool → Act → World → Prop) (rs late : List Nat) (f0 : Nat) (h0 : J a0 listed0 a0 w0) (hrest : ∀ listed a w, J a0 listed a w → listed.size = ops.size ∧ restB rs late ops.size listed = true)
    (hstep : StepsI P md ops Q S (J a0) rs)
    (hend : ∀ listed a w, J a0 listed a w → (∀ i, i ∈ rs → listed.getD i false = true) → wpAnyH P md ops Q S f0 listed a w)
    (hf : fuel = openR rs listed0 + f0 := by kernel_rfl) (hn : rs.Nodup := by decide) (hback : backB md ops rs = true := by kernel_rfl) (hearly : earlyB md ops rs late = true := by kernel_rfl)
    (hlate : rs.all (fun i => waitB md ops late i) = true := by kernel_rfl) :
    wpAnyH P md ops Q S fuel listed0 a0 w0 := by
  refine wpAnyH_inv (J a0) rs late f0 hn hback hearly hlate hrest ?_ hend fuel listed0 a0 w0 h0 hf
  intro i hi o ho listed a w hI hun hdep
  refine hstep i hi o ho listed a w hI hun ?_
  unfold depsB
  rw [List.all_eq_true]
  intro e he
  rcases hb : Region.binds md e with _ | _
  · rfl
  · rw [hdep e (by simpa using he) hb]; rfl
end
end Go.Proofs.Ytmlbphmbffkdnaa
