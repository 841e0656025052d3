/-
  The program's head, sign by sign, so that the kernel need not take its text apart; and the closed facts that every statement of this seat asks of the whole program.
-/
import Derived.ProofKit
import Derived.Test.YtmlbphmbffkdnaaGreatRows
namespace Go.Proofs.YtmlbphmbffkdnaaGreat
open Go.RowKit
def headCodes : List Nat := [
  104, 97, 114, 110, 101, 115, 115, 32, 98, 99, 102, 101, 49, 51, 53, 97, 101, 49, 49, 97, 99, 51, 54, 98, 48, 97, 50, 53, 48, 98, 49, 51, 98, 48, 56, 102, 100, 49, 52, 55,
  98, 100, 97, 102, 54, 48, 98, 51, 97, 51, 57, 54, 57, 50, 51, 55, 101, 53, 49, 55, 54, 48, 97, 54, 97, 48, 55, 49, 48, 53, 49, 53, 32, 99, 117, 116, 32, 97, 116, 32,
  108, 111, 111, 112, 46, 101, 120, 97, 109, 112, 108, 101, 47, 115, 116, 105, 108, 101, 119, 97, 121, 47, 108, 97, 119, 115, 46, 70, 110, 71, 97, 116, 83, 104, 111, 119, 32, 108, 111, 111,
  112, 46, 101, 120, 97, 109, 112, 108, 101, 47, 115, 116, 105, 108, 101, 119, 97, 121, 47, 108, 97, 119, 115, 46, 70, 110, 71, 97, 116, 72, 111, 110, 101, 115, 116]
def cutSigns : List Char := [99, 117, 116].map Char.ofNat
set_option maxRecDepth 100000
theorem head_text : Tryz.prog.initOrder = String.ofList (headCodes.map Char.ofNat) := by kernel_rfl
theorem head_signs : Tryz.prog.initOrder.toList = headCodes.map Char.ofNat := by rw [head_text, String.toList_ofList]
theorem head_first : (behindMainWord (wordsSigns (headCodes.map Char.ofNat))).head? = some cutSigns := by kernel_rfl
theorem head_cut : ∃ rest, behindMainWord (wordsSigns Tryz.prog.initOrder.toList) = cutSigns :: rest := by
  rw [head_signs]
  have h := head_first
  cases hx : behindMainWord (wordsSigns (headCodes.map Char.ofNat)) with
  | nil => rw [hx] at h; cases h
  | cons c rest => rw [hx] at h; cases h; exact ⟨rest, rfl⟩
theorem lifts_none (rest : List (List Char)) : stripLifts liftWords (cutSigns :: rest) = ([], cutSigns :: rest) := by kernel_rfl
theorem is_cut : (cutSigns == "cut".toList) = true := by kernel_rfl
theorem no_gc : (cutSigns == "gc".toList) = false := by kernel_rfl
theorem no_spec : (cutSigns == "spec".toList) = false := by kernel_rfl
theorem no_carried : (cutSigns == "carried".toList) = false := by kernel_rfl
theorem fa_lays : Tryz.prog.laysLater = false := by kernel_rfl
theorem fa_refl : Tryz.prog.bearsReflect = false := by kernel_rfl
theorem fa_door : Tryz.prog.doorFits [] = true := by kernel_rfl
theorem make_of (P : Program) (rest : List (List Char)) (h : behindMainWord (wordsSigns P.initOrder.toList) = cutSigns :: rest) : P.make = some .cut := by
  unfold Program.make
  rw [h]
  simp only [no_gc, no_spec, is_cut, Bool.or_false, Bool.true_or, Bool.false_eq_true, if_false, if_true]
theorem lifts_of (P : Program) (rest : List (List Char)) (h : behindMainWord (wordsSigns P.initOrder.toList) = cutSigns :: rest) : P.liftsFinal = false := by
  have hc : (some cutSigns == some "carried".toList) = false := by kernel_rfl
  have hl : P.headLifts = [] := by
    unfold Program.headLifts
    rw [h, lifts_none]
    simp
  unfold Program.liftsFinal
  rw [h, hl]
  simp only [List.head?_cons, hc, Bool.false_and, Bool.false_or]
  rfl
theorem enter_of (P : Program) (rest : List (List Char)) (h : behindMainWord (wordsSigns P.initOrder.toList) = cutSigns :: rest) (h1 : P.laysLater = false) (h2 : P.bearsReflect = false) (h3 : P.doorFits [] = true) : P.mayEnter = true := by
  have hc : (some cutSigns == some "cut".toList) = true := by kernel_rfl
  have hn : ([] : List String).contains "finals" = false := rfl
  have hr : ([] : List String).contains "reflectrows" = false := rfl
  have hl : ([] : List String).contains "leanrows" = false := rfl
  unfold Program.mayEnter
  rw [h]
  simp only [lifts_none, no_gc, no_spec, no_carried, List.head?_cons, hc, hn, hr, hl, h1, h2, h3, Bool.or_false, Bool.false_and, Bool.not_false, Bool.and_self, Bool.or_true]
theorem fa_make : Tryz.prog.make = some .cut := head_cut.elim fun rest h => make_of Tryz.prog rest h
theorem fa_lifts : Tryz.prog.liftsFinal = false := head_cut.elim fun rest h => lifts_of Tryz.prog rest h
theorem fa_enter : Tryz.prog.mayEnter = true := head_cut.elim fun rest h => enter_of Tryz.prog rest h fa_lays fa_refl fa_door
end Go.Proofs.YtmlbphmbffkdnaaGreat
