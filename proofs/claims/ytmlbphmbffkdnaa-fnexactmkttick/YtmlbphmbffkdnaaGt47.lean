/-
  Texts of the proof, what it needs of them: Houz.
-/
import Derived.Test.YtmlbphmbffkdnaaGt15
import Derived.Test.YtmlbphmbffkdnaaGt33
import Derived.Test.YtmlbphmbffkdnaaGt45
import Derived.Test.YtmlbphmbffkdnaaGt46
namespace Go.Proofs.Ytmlbphmbffkdnaa
open Go.RowKit
set_option linter.unusedVariables false
set_option maxRecDepth 100000

set_option maxHeartbeats 400000 in
theorem sgD (ao : Option Addr) (n cap l : Nat) (w : World) (hl : l ≤ 1048576) (hn : n ≤ 9223372036854775807) : Calls Try.prog 161 #[.slice ao n cap, .int .i64 (l : Int)] w fun e w' => e = .returned (.int .i64 (if n ≤ l then (l : Int) - (n : Int) else -1)) ∧ w' = w := by
  by_cases h : n ≤ l
  · have HE : Hid ((if n ≤ l then (l : Int) - (n : Int) else -1) = (l : Int) - (n : Int)) := by unfold Hid; rw [if_pos h]
    have h2 : ¬ ((l : Int) - (n : Int) < 0) := by omega
    go_enter Try.func161, Try.ntmps161
    go_wp2_with fail
    go_ret
    exact ⟨rfl, rfl⟩
  · have HE : Hid ((if n ≤ l then (l : Int) - (n : Int) else -1) = -1) := by unfold Hid; rw [if_neg h]
    have h2 : (l : Int) - (n : Int) < 0 := by omega
    go_enter Try.func161, Try.ntmps161
    go_wp2_with fail
    go_ret
    exact ⟨rfl, rfl⟩
def tot (h : House) : Nat := h.es.length + h.pu.length + h.ds.length + h.nu.length + h.sa.length
theorem small_of {h : House} (ht : tot h ≤ 1048576) : Small h := by unfold tot at ht; exact ⟨by omega, by omega, by omega, by omega, by omega⟩

set_option maxHeartbeats 8000000 in
theorem sgM (h : House) (q : HP) (w : World) (hL : h.es.length ≤ 9223372036854775807 ∧ h.pu.length ≤ 9223372036854775807 ∧ h.ds.length ≤ 9223372036854775807 ∧ h.nu.length ≤ 9223372036854775807 ∧ h.sa.length ≤ 9223372036854775807) :
    Calls Try.prog 82 #[hV q h, .int .i64 1048576] w fun e w' => e = .returned (.int .i64 (if tot h ≤ 1048576 then 1048576 - (tot h : Int) else -1)) ∧ Below w.heap.size w w' := by
  obtain ⟨es, pu, ds, cl, nu, sa⟩ := h
  obtain ⟨a0, k0, a1, k1, a2, k2, a4, k4, a5, k5⟩ := q
  have ht : tot ⟨es, pu, ds, cl, nu, sa⟩ = es.length + pu.length + ds.length + nu.length + sa.length := rfl
  rw [ht]
  clear ht
  obtain ⟨hs0, hs1, hs2, hs4, hs5⟩ := hL
  dsimp only at hs0 hs1 hs2 hs4 hs5
  have HB := hide (Below.refl w.heap.size w)
  replace HB := hide (below_al (o := .cells #[.slice a0 es.length k0, .slice a1 pu.length k1, .slice a2 ds.length k2, .int .i64 cl, .slice a4 nu.length k4, .slice a5 sa.length k5] 96) (unhide HB))
  have HX := hide (box_new w [.slice a0 es.length k0, .slice a1 pu.length k1, .slice a2 ds.length k2, .int .i64 cl, .slice a4 nu.length k4, .slice a5 sa.length k5] 96 (by simp [Value.oneCell']))
  (try simp only [World.size_alloc] at HX)
  by_cases hT : es.length + pu.length + ds.length + nu.length + sa.length ≤ 1048576
  case pos =>
    obtain ⟨l0, hl0⟩ : ∃ l : Nat, ((1048576 : Nat) : Int) - (es.length : Int) = (l : Int) := ⟨1048576 - es.length, by omega⟩
    obtain ⟨l1, hl1⟩ : ∃ l : Nat, (l0 : Int) - (pu.length : Int) = (l : Int) := ⟨l0 - pu.length, by omega⟩
    obtain ⟨l2, hl2⟩ : ∃ l : Nat, (l1 : Int) - (ds.length : Int) = (l : Int) := ⟨l1 - ds.length, by omega⟩
    obtain ⟨l3, hl3⟩ : ∃ l : Nat, (l2 : Int) - (nu.length : Int) = (l : Int) := ⟨l2 - nu.length, by omega⟩
    obtain ⟨l4, hl4⟩ : ∃ l : Nat, (l3 : Int) - (sa.length : Int) = (l : Int) := ⟨l3 - sa.length, by omega⟩
    have hp0 : ¬ ((l0 : Int) < 0) := by omega
    have hp1 : ¬ ((l1 : Int) < 0) := by omega
    have hp2 : ¬ ((l2 : Int) < 0) := by omega
    have hp3 : ¬ ((l3 : Int) < 0) := by omega
    have hp4 : ¬ ((l4 : Int) < 0) := by omega
    rw [if_pos hT, show (1048576 : Int) - ((es.length + pu.length + ds.length + nu.length + sa.length : Nat) : Int) = (l4 : Int) by omega]
    have x0 := (unhide HX).cell 0 rfl
    have x1 := (unhide HX).cell 1 rfl
    have x2 := (unhide HX).cell 2 rfl
    have x3 := (unhide HX).cell 3 rfl
    have x4 := (unhide HX).cell 4 rfl
    have x5 := (unhide HX).cell 5 rfl
    go_enter Try.func82, Try.ntmps82
    go_wp2_with fail
    refine (sgE a0 es.length k0 1048576 _ (by omega) hs0).mono ?_
    rintro e w1 ⟨rfl, hww⟩
    have hww := hww.symm
    subst hww
    rw [if_pos (by omega), hl0]
    go_wp2_with fail
    refine (sgI a1 pu.length k1 l0 _ (by omega) hs1).mono ?_
    rintro e w2 ⟨rfl, hww⟩
    have hww := hww.symm
    subst hww
    rw [if_pos (by omega), hl1]
    go_wp2_with fail
    refine (sgD a2 ds.length k2 l1 _ (by omega) hs2).mono ?_
    rintro e w3 ⟨rfl, hww⟩
    have hww := hww.symm
    subst hww
    rw [if_pos (by omega), hl2]
    go_wp2_with fail
    refine (sgI a4 nu.length k4 l2 _ (by omega) hs4).mono ?_
    rintro e w4 ⟨rfl, hww⟩
    have hww := hww.symm
    subst hww
    rw [if_pos (by omega), hl3]
    go_wp2_with fail
    refine (sgI a5 sa.length k5 l3 _ (by omega) hs5).mono ?_
    rintro e w5 ⟨rfl, hww⟩
    have hww := hww.symm
    subst hww
    rw [if_pos (by omega), hl4]
    go_wp2_with fail
    go_ret
    exact ⟨rfl, unhide HB⟩
  rw [if_neg hT]
  by_cases hc0 : es.length ≤ 1048576
  case neg =>
    have x0 := (unhide HX).cell 0 rfl
    have x1 := (unhide HX).cell 1 rfl
    have x2 := (unhide HX).cell 2 rfl
    have x3 := (unhide HX).cell 3 rfl
    have x4 := (unhide HX).cell 4 rfl
    have x5 := (unhide HX).cell 5 rfl
    go_enter Try.func82, Try.ntmps82
    go_wp2_with fail
    refine (sgE a0 es.length k0 1048576 _ (by omega) hs0).mono ?_
    rintro e w1 ⟨rfl, hww⟩
    have hww := hww.symm
    subst hww
    rw [if_neg (by omega)]
    have hm : (-1 : Int) < 0 := by omega
    go_wp2_with fail
    go_ret
    exact ⟨rfl, unhide HB⟩
  obtain ⟨l0, hl0⟩ : ∃ l : Nat, ((1048576 : Nat) : Int) - (es.length : Int) = (l : Int) := ⟨1048576 - es.length, by omega⟩
  have hp0 : ¬ ((l0 : Int) < 0) := by omega
  by_cases hc1 : pu.length ≤ l0
  case neg =>
    have x0 := (unhide HX).cell 0 rfl
    have x1 := (unhide HX).cell 1 rfl
    have x2 := (unhide HX).cell 2 rfl
    have x3 := (unhide HX).cell 3 rfl
    have x4 := (unhide HX).cell 4 rfl
    have x5 := (unhide HX).cell 5 rfl
    go_enter Try.func82, Try.ntmps82
    go_wp2_with fail
    refine (sgE a0 es.length k0 1048576 _ (by omega) hs0).mono ?_
    rintro e w1 ⟨rfl, hww⟩
    have hww := hww.symm
    subst hww
    rw [if_pos (by omega), hl0]
    go_wp2_with fail
    refine (sgI a1 pu.length k1 l0 _ (by omega) hs1).mono ?_
    rintro e w2 ⟨rfl, hww⟩
    have hww := hww.symm
    subst hww
    rw [if_neg (by omega)]
    have hm : (-1 : Int) < 0 := by omega
    go_wp2_with fail
    go_ret
    exact ⟨rfl, unhide HB⟩
  obtain ⟨l1, hl1⟩ : ∃ l : Nat, (l0 : Int) - (pu.length : Int) = (l : Int) := ⟨l0 - pu.length, by omega⟩
  have hp1 : ¬ ((l1 : Int) < 0) := by omega
  by_cases hc2 : ds.length ≤ l1
  case neg =>
    have x0 := (unhide HX).cell 0 rfl
    have x1 := (unhide HX).cell 1 rfl
    have x2 := (unhide HX).cell 2 rfl
    have x3 := (unhide HX).cell 3 rfl
    have x4 := (unhide HX).cell 4 rfl
    have x5 := (unhide HX).cell 5 rfl
    go_enter Try.func82, Try.ntmps82
    go_wp2_with fail
    refine (sgE a0 es.length k0 1048576 _ (by omega) hs0).mono ?_
    rintro e w1 ⟨rfl, hww⟩
    have hww := hww.symm
    subst hww
    rw [if_pos (by omega), hl0]
    go_wp2_with fail
    refine (sgI a1 pu.length k1 l0 _ (by omega) hs1).mono ?_
    rintro e w2 ⟨rfl, hww⟩
    have hww := hww.symm
    subst hww
    rw [if_pos (by omega), hl1]
    go_wp2_with fail
    refine (sgD a2 ds.length k2 l1 _ (by omega) hs2).mono ?_
    rintro e w3 ⟨rfl, hww⟩
    have hww := hww.symm
    subst hww
    rw [if_neg (by omega)]
    have hm : (-1 : Int) < 0 := by omega
    go_wp2_with fail
    go_ret
    exact ⟨rfl, unhide HB⟩
  obtain ⟨l2, hl2⟩ : ∃ l : Nat, (l1 : Int) - (ds.length : Int) = (l : Int) := ⟨l1 - ds.length, by omega⟩
  have hp2 : ¬ ((l2 : Int) < 0) := by omega
  by_cases hc3 : nu.length ≤ l2
  case neg =>
    have x0 := (unhide HX).cell 0 rfl
    have x1 := (unhide HX).cell 1 rfl
    have x2 := (unhide HX).cell 2 rfl
    have x3 := (unhide HX).cell 3 rfl
    have x4 := (unhide HX).cell 4 rfl
    have x5 := (unhide HX).cell 5 rfl
    go_enter Try.func82, Try.ntmps82
    go_wp2_with fail
    refine (sgE a0 es.length k0 1048576 _ (by omega) hs0).mono ?_
    rintro e w1 ⟨rfl, hww⟩
    have hww := hww.symm
    subst hww
    rw [if_pos (by omega), hl0]
    go_wp2_with fail
    refine (sgI a1 pu.length k1 l0 _ (by omega) hs1).mono ?_
    rintro e w2 ⟨rfl, hww⟩
    have hww := hww.symm
    subst hww
    rw [if_pos (by omega), hl1]
    go_wp2_with fail
    refine (sgD a2 ds.length k2 l1 _ (by omega) hs2).mono ?_
    rintro e w3 ⟨rfl, hww⟩
    have hww := hww.symm
    subst hww
    rw [if_pos (by omega), hl2]
    go_wp2_with fail
    refine (sgI a4 nu.length k4 l2 _ (by omega) hs4).mono ?_
    rintro e w4 ⟨rfl, hww⟩
    have hww := hww.symm
    subst hww
    rw [if_neg (by omega)]
    have hm : (-1 : Int) < 0 := by omega
    go_wp2_with fail
    go_ret
    exact ⟨rfl, unhide HB⟩
  obtain ⟨l3, hl3⟩ : ∃ l : Nat, (l2 : Int) - (nu.length : Int) = (l : Int) := ⟨l2 - nu.length, by omega⟩
  have hp3 : ¬ ((l3 : Int) < 0) := by omega
  have hc4 : ¬ sa.length ≤ l3 := by omega
  have x0 := (unhide HX).cell 0 rfl
  have x1 := (unhide HX).cell 1 rfl
  have x2 := (unhide HX).cell 2 rfl
  have x3 := (unhide HX).cell 3 rfl
  have x4 := (unhide HX).cell 4 rfl
  have x5 := (unhide HX).cell 5 rfl
  go_enter Try.func82, Try.ntmps82
  go_wp2_with fail
  refine (sgE a0 es.length k0 1048576 _ (by omega) hs0).mono ?_
  rintro e w1 ⟨rfl, hww⟩
  have hww := hww.symm
  subst hww
  rw [if_pos (by omega), hl0]
  go_wp2_with fail
  refine (sgI a1 pu.length k1 l0 _ (by omega) hs1).mono ?_
  rintro e w2 ⟨rfl, hww⟩
  have hww := hww.symm
  subst hww
  rw [if_pos (by omega), hl1]
  go_wp2_with fail
  refine (sgD a2 ds.length k2 l1 _ (by omega) hs2).mono ?_
  rintro e w3 ⟨rfl, hww⟩
  have hww := hww.symm
  subst hww
  rw [if_pos (by omega), hl2]
  go_wp2_with fail
  refine (sgI a4 nu.length k4 l2 _ (by omega) hs4).mono ?_
  rintro e w4 ⟨rfl, hww⟩
  have hww := hww.symm
  subst hww
  rw [if_pos (by omega), hl3]
  go_wp2_with fail
  refine (sgI a5 sa.length k5 l3 _ (by omega) hs5).mono ?_
  rintro e w5 ⟨rfl, hww⟩
  have hww := hww.symm
  subst hww
  rw [if_neg (by omega)]
  have hm : (-1 : Int) < 0 := by omega
  go_wp2_with fail
  go_ret
  exact ⟨rfl, unhide HB⟩

open Go.ChangeShapes Go.WideShapes Go.ChangeAt
section
variable {H : Type} {enc : TypeId × Value → H} {w : World} {base : Nat} {spare : Nat → Bool} {held : Bool}
theorem ints5D {fuel : Nat} {cs : List Value} {x : DataW H × List MemPlace} (h : DataW.trod enc Try.prog w base spare held fuel 205 cs = some x) :
    ∃ e : Tm.Deal, cs = dCells e ∧ FitD e := by
  obtain ⟨xs, n, _, hx, hl, hlen, hfld⟩ := DataW.trod_struct Try.underlying205 h
  have hC : Try.prog.cellsOf 205 = 5 := by kernel_rfl
  have hc3 : Try.prog.cellsOf 3 = 1 := by kernel_rfl
  rw [hC] at hl
  match xs, hlen with
  | [y0, y1, y2, y3, y4], _ =>
    have h0 := hfld 0 _ rfl
    have h1 := hfld 1 _ rfl
    have h2 := hfld 2 _ rfl
    have h3 := hfld 3 _ rfl
    have h4 := hfld 4 _ rfl
    match cs, hl with
    | [c0, c1, c2, c3, c4], _ =>
      simp [hc3] at h0 h1 h2 h3 h4
      obtain ⟨a0, e0, -, w0⟩ := DataW.trod_int Try.underlying3 h0
      obtain ⟨a1, e1, -, w1⟩ := DataW.trod_int Try.underlying3 h1
      obtain ⟨a2, e2, -, w2⟩ := DataW.trod_int Try.underlying3 h2
      obtain ⟨a3, e3, -, w3⟩ := DataW.trod_int Try.underlying3 h3
      obtain ⟨a4, e4, -, w4⟩ := DataW.trod_int Try.underlying3 h4
      simp at e0 e1 e2 e3 e4
      subst e0 e1 e2 e3 e4
      exact ⟨(a0, a1, a2, a3, a4), rfl, wf64 w0, wf64 w1, wf64 w2, wf64 w3, wf64 w4⟩
theorem open_ESf {cs : List Value} {fuel : Nat} {y : DataW H × List MemPlace} (hf : DataW.trod enc Try.prog w base spare held fuel 93 cs = some y) :
    ∃ (a : Option Addr) (len cap : Nat) (es : List Tm.Ent), cs = [.slice a len cap] ∧ es.length = len ∧ len ≤ cap ∧ cap ≤ maxLen ∧ ERow w a es := by
  have hC : Try.prog.cellsOf 203 = 4 := by kernel_rfl
  rcases Deep.open_slice Try.underlying93 hf with ⟨hcs, -⟩ | ⟨x, l, c, m, n, D, Pl, hcs, -, hl, hm, hmm, -, hx⟩
  · exact ⟨none, 0, 0, [], hcs, rfl, Nat.le_refl _, by unfold maxLen; omega, fun e he => by simp at he, fun h => absurd rfl h⟩
  · rw [hC] at hx
    have hlm : l ≤ m := by rw [hmm]; split <;> omega
    obtain ⟨es, h1, h2, h3⟩ := gather eCells_len (by decide) FitE x l base (fun i hi => by
      obtain ⟨cs', q1, q2⟩ := hx i (by omega)
      obtain ⟨e, q3, q4⟩ := ints4 q2
      exact ⟨cs', q1, e, q3, q4⟩)
    exact ⟨some x, l, c, es, hcs, h1, hl, hm, h2, h3⟩
theorem open_DSf {cs : List Value} {fuel : Nat} {y : DataW H × List MemPlace} (hf : DataW.trod enc Try.prog w base spare held fuel 94 cs = some y) :
    ∃ (a : Option Addr) (len cap : Nat) (es : List Tm.Deal), cs = [.slice a len cap] ∧ es.length = len ∧ len ≤ cap ∧ cap ≤ maxLen ∧ DRow w a es := by
  have hC : Try.prog.cellsOf 205 = 5 := by kernel_rfl
  rcases Deep.open_slice Try.underlying94 hf with ⟨hcs, -⟩ | ⟨x, l, c, m, n, D, Pl, hcs, -, hl, hm, hmm, -, hx⟩
  · exact ⟨none, 0, 0, [], hcs, rfl, Nat.le_refl _, by unfold maxLen; omega, fun e he => by simp at he, fun h => absurd rfl h⟩
  · rw [hC] at hx
    have hlm : l ≤ m := by rw [hmm]; split <;> omega
    obtain ⟨es, h1, h2, h3⟩ := gather dCells_len (by decide) FitD x l base (fun i hi => by
      obtain ⟨cs', q1, q2⟩ := hx i (by omega)
      obtain ⟨e, q3, q4⟩ := ints5D q2
      exact ⟨cs', q1, e, q3, q4⟩)
    exact ⟨some x, l, c, es, hcs, h1, hl, hm, h2, h3⟩
theorem open_If {cs : List Value} {fuel : Nat} {y : DataW H × List MemPlace} (hf : DataW.trod enc Try.prog w base (fun _ => true) held fuel 23 cs = some y) :
    ∃ (a : Option Addr) (len cap : Nat) (es : List Int), cs = [.slice a len cap] ∧ es.length = len ∧ len ≤ cap ∧ cap ≤ maxLen ∧ Row w a es := by
  obtain ⟨a, len, cap, zs, e, hr⟩ : ∃ (a : Option Addr) (len cap : Nat) (zs : List Int), cs = [.slice a len cap] ∧ IsRow .i64 w a len cap zs := by
    rcases open_ints Try.underlying23 Try.underlying3 (by kernel_rfl) hf with ⟨hcs, _⟩ | ⟨x, l, c, zs, hcs, _, hl, hm, hz, _, hcell, hwz⟩
    · exact ⟨none, 0, 0, [], hcs, .inl ⟨rfl, rfl, rfl, rfl⟩⟩
    · exact ⟨some x, l, c, zs, hcs, .inr ⟨_, rfl, hl, hm, by simpa using hz, hcell, hwz⟩⟩
  obtain ⟨h1, h2, h3, h4⟩ := isRow_ints hr
  exact ⟨a, len, cap, _, e, h1, h2, h3, h4⟩
def HLen (h : House) : Prop := h.es.length ≤ 9223372036854775807 ∧ h.pu.length ≤ 9223372036854775807 ∧ h.ds.length ≤ 9223372036854775807 ∧ h.nu.length ≤ 9223372036854775807 ∧ h.sa.length ≤ 9223372036854775807
theorem open_M {r : Reach} {b0 : Nat} {v : Value} {d : DataW H} {p : List MemPlace} (hv : Value.okWide Try.prog w r b0 96 v) (h : DataW.Trod enc Try.prog w base (fun _ => true) held 96 v d p) :
    ∃ (q : HP) (hh : House), v = hV q hh ∧ HRow w q hh ∧ HLen hh := by
  obtain ⟨cs, rfl, hsz⟩ := okWide_struct Try.underlying96 hv
  obtain ⟨fuel, hf⟩ := h
  obtain ⟨xs, n, _, hx, hl, hlen, hfld⟩ := DataW.trod_struct Try.underlying96 hf
  have hC : Try.prog.cellsOf 96 = 6 := by kernel_rfl
  have hc3 : Try.prog.cellsOf 3 = 1 := by kernel_rfl
  have hcE : Try.prog.cellsOf 93 = 1 := by kernel_rfl
  have hcD : Try.prog.cellsOf 94 = 1 := by kernel_rfl
  have hcI : Try.prog.cellsOf 23 = 1 := by kernel_rfl
  rw [hC] at hsz
  match xs, hlen with
  | [y0, y1, y2, y3, y4, y5], _ =>
    have h0 := hfld 0 _ rfl
    have h1 := hfld 1 _ rfl
    have h2 := hfld 2 _ rfl
    have h3 := hfld 3 _ rfl
    have h4 := hfld 4 _ rfl
    have h5 := hfld 5 _ rfl
    obtain ⟨l⟩ := cs
    match l, hsz with
    | [c0, c1, c2, c3, c4, c5], _ =>
      simp [hc3, hcE, hcD, hcI, Value.cells] at h0 h1 h2 h3 h4 h5
      obtain ⟨a0, n0, k0, es, e0, l0, m0, o0, r0⟩ := open_ESf h0
      obtain ⟨a1, n1, k1, pu, e1, l1, m1, o1, r1⟩ := open_If h1
      obtain ⟨a2, n2, k2, ds, e2, l2, m2, o2, r2⟩ := open_DSf h2
      obtain ⟨cl, e3, -, w3⟩ := DataW.trod_int Try.underlying3 h3
      obtain ⟨a4, n4, k4, nu, e4, l4, m4, o4, r4⟩ := open_If h4
      obtain ⟨a5, n5, k5, sa, e5, l5, m5, o5, r5⟩ := open_If h5
      simp at e0 e1 e2 e3 e4 e5
      subst e0 e1 e2 e3 e4 e5
      subst l0 l1 l2 l4 l5
      unfold maxLen at o0 o1 o2 o4 o5
      exact ⟨⟨a0, k0, a1, k1, a2, k2, a4, k4, a5, k5⟩, ⟨es, pu, ds, cl, nu, sa⟩, rfl, ⟨r0, r1, r2, r4, r5⟩, by dsimp only; omega, by dsimp only; omega, by dsimp only; omega, by dsimp only; omega, by dsimp only; omega⟩
end
end Go.Proofs.Ytmlbphmbffkdnaa
