/-
  Texts of the proof, what it needs of them: Hede.
-/
import Derived.Test.YtmlbphmbffkdnaaGreatGh07
import Derived.Test.YtmlbphmbffkdnaaGreatGh22
import Derived.Test.YtmlbphmbffkdnaaGreatGh23
import Derived.Test.YtmlbphmbffkdnaaGreatGh26
namespace Go.Proofs.YtmlbphmbffkdnaaGreat
open Go.RowKit
set_option linter.unusedVariables false
set_option maxRecDepth 100000

theorem Sl.tk {α : Type} {f : α → List Value} {w : World} {ao : Option Addr} {xs : List α} (s : Nat) (hs : ∀ x, (f x).length = s) (h : Sl f w ao xs) (k : Nat) : Sl f w ao (xs.take k) := by
  intro hne
  obtain ⟨b, off, rfl, hc⟩ := h (fun e => hne (by rw [e]; simp))
  refine ⟨b, off, rfl, fun j v hv => hc j v ?_⟩
  have e : xs.flatMap f = (xs.take k).flatMap f ++ (xs.drop k).flatMap f := by rw [← List.flatMap_append, List.take_append_drop]
  rw [e, List.getElem?_append_left (by
    rcases Nat.lt_or_ge j ((xs.take k).flatMap f).length with h2 | h2
    · exact h2
    · rw [List.getElem?_eq_none h2] at hv; cases hv)]
  exact hv
theorem ERow.tk {w : World} {ao : Option Addr} {es : List Tm.Ent} (h : ERow w ao es) (k : Nat) : ERow w ao (es.take k) := ⟨fun e he => h.1 e (List.mem_of_mem_take he), Sl.tk 4 eCells_len h.2 k⟩
/-- the head of the first so many, part by part -/
def aS (es : List Tm.Ent) (i : Int) : Int := if 0 ≤ i ∧ i ≤ (es.length : Int) then hS (es.take i.toNat) else 0
def aL (es : List Tm.Ent) (i : Int) : Int := if 0 ≤ i ∧ i ≤ (es.length : Int) then hL (es.take i.toNat) else 0
def aO (es : List Tm.Ent) (i : Int) : Int := if 0 ≤ i ∧ i ≤ (es.length : Int) then hO (es.take i.toNat) else 0
def aI (es : List Tm.Ent) (i : Int) : Bool := if 0 ≤ i ∧ i ≤ (es.length : Int) then foldIs (es.take i.toNat) else false
theorem at_no {es : List Tm.Ent} {i : Int} (h : ¬ (0 ≤ i ∧ i ≤ (es.length : Int))) : aS es i = 0 ∧ aL es i = 0 ∧ aO es i = 0 ∧ aI es i = false := by unfold aS aL aO aI; rw [if_neg h, if_neg h, if_neg h, if_neg h]; exact ⟨rfl, rfl, rfl, rfl⟩
theorem at_yes {es : List Tm.Ent} {k : Nat} (h : k ≤ es.length) : aS es (k : Int) = hS (es.take k) ∧ aL es (k : Int) = hL (es.take k) ∧ aO es (k : Int) = hO (es.take k) ∧ aI es (k : Int) = foldIs (es.take k) := by
  unfold aS aL aO aI
  have h' : 0 ≤ (k : Int) ∧ (k : Int) ≤ (es.length : Int) := by omega
  rw [if_pos h', if_pos h', if_pos h', if_pos h', Int.toNat_natCast]; exact ⟨rfl, rfl, rfl, rfl⟩

set_option maxHeartbeats 4000000 in
theorem c71 (es : List Tm.Ent) (i : Int) (ao : Option Addr) (n cap : Nat) (w : World) (hn : es.length = n) (hcap : n ≤ cap) (hm : n ≤ 1048576) (hr : ERow w ao es) :
    Calls Tryz.prog 71 #[.slice ao n cap, .int .i64 i] w (HedTold w (aS es i) (aL es i) (aO es i) (aI es i)) := by
  have HZ := hide (box_new w [.int .i64 0, .int .i64 0, .int .i64 0] 24 (by simp [Value.oneCell']))
  have HB := hide (below_a (w := w) (.cells #[.int .i64 0, .int .i64 0, .int .i64 0] 24))
  have HR := hide (hr.bel (below_a (.cells #[.int .i64 0, .int .i64 0, .int .i64 0] 24)))
  have HN := hide hn
  clear hr hn
  by_cases hi : 0 ≤ i ∧ i ≤ (n : Int)
  case neg =>
    obtain ⟨u0, u1, u2, u3⟩ := at_no (es := es) (i := i) (by rw [unhide HN]; exact hi)
    rw [u3]
    have d1 : decide (0 ≤ i ∧ i ≤ (n : Int)) = false := decide_eq_false hi
    have HU0 := hide u0
    have HU1 := hide u1
    have HU2 := hide u2
    clear u0 u1 u2 u3 hi
    have z0 := (unhide HZ).cell 0 rfl
    have z0f := (unhide HZ).frozen 0 rfl
    have z1 := (unhide HZ).cell 1 rfl
    have z1f := (unhide HZ).frozen 1 rfl
    have z2 := (unhide HZ).cell 2 rfl
    have z2f := (unhide HZ).frozen 2 rfl
    go_enter Tryz.func71, Tryz.ntmps71
    go_wp2_with fail
    refine (c40 i 0 (n : Int) _).mono ?_
    rintro e w1 ⟨rfl, hww⟩
    have hww := hww.symm
    subst hww
    go_wp2_with fail
    exact bodyPost_ret (v := .tuple #[hedV (aS es i) (aL es i) (aO es i), .bool false]) (by simp [results, Tryz.results71, go_sem, z0, z1, z2, unhide HU0, unhide HU1, unhide HU2]) rfl ⟨rfl, by first | exact unhide HB | exact below_s3 (unhide HB) (Nat.le_refl _)⟩
  obtain ⟨hi1, hi2⟩ := hi
  obtain ⟨k, rfl⟩ := Int.eq_ofNat_of_zero_le hi1
  obtain ⟨u0, u1, u2, u3⟩ := at_yes (es := es) (k := k) (by rw [unhide HN]; omega)
  rw [u0, u1, u2, u3]
  clear u0 u1 u2 u3
  have d1 : decide (0 ≤ (k : Int) ∧ (k : Int) ≤ (n : Int)) = true := decide_eq_true ⟨hi1, hi2⟩
  have hk2 : (k : Int) ≤ (cap : Int) := by omega
  have HLT : Hid ((es.take k).length = k) := by unfold Hid; rw [List.length_take, unhide HN]; omega
  have z0 := (unhide HZ).cell 0 rfl
  have z0f := (unhide HZ).frozen 0 rfl
  have z1 := (unhide HZ).cell 1 rfl
  have z1f := (unhide HZ).frozen 1 rfl
  have z2 := (unhide HZ).cell 2 rfl
  have z2f := (unhide HZ).frozen 2 rfl
  go_enter Tryz.func71, Tryz.ntmps71
  go_wp2_with fail
  refine (c40 (k : Int) 0 (n : Int) _).mono ?_
  rintro e w1 ⟨rfl, hww⟩
  have hww := hww.symm
  subst hww
  go_wp2_with fail
  refine (c16 (es.take k) _ k cap _ (unhide HLT) (by omega) (by omega) ((unhide HR).tk k)).mono ?_
  rintro e w2 ⟨rfl, hb⟩
  generalize hS (es.take k) = s at *
  generalize hL (es.take k) = l at *
  generalize hO (es.take k) = o at *
  generalize foldIs (es.take k) = b at *
  clear z0 z0f z1 z1f z2 z2f
  replace HB := hide (below_tr (unhide HB) hb)
  replace HZ := hide ((unhide HZ).bel hb)
  replace HR := hide ((unhide HR).bel hb)
  clear hb
  have z0 := (unhide HZ).cell 0 rfl
  have z0f := (unhide HZ).frozen 0 rfl
  have z1 := (unhide HZ).cell 1 rfl
  have z1f := (unhide HZ).frozen 1 rfl
  have z2 := (unhide HZ).cell 2 rfl
  have z2f := (unhide HZ).frozen 2 rfl
  go_wp2_with fail
  exact bodyPost_ret (v := .tuple #[hedV s l o, .bool b]) (by simp [results, Tryz.results71, go_sem, z0, z1, z2]) rfl ⟨rfl, below_s3 (unhide HB) (Nat.le_refl _)⟩

end Go.Proofs.YtmlbphmbffkdnaaGreat
