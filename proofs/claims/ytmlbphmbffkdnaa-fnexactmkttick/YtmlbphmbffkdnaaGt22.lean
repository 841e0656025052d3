/-
  Texts of the proof, what it needs of them: Mona.
-/
import Derived.Laws.AppendOwnNone
import Derived.Test.YtmlbphmbffkdnaaGt12
namespace Go.Proofs.Ytmlbphmbffkdnaa
open Go.RowKit
set_option linter.unusedVariables false
set_option maxRecDepth 100000

def sumTo (p : List Int) (k : Nat) : Int := (p.take k).foldl (fun s x => wrap64 (s + x)) 0
theorem sumTo_zero (p : List Int) : sumTo p 0 = 0 := by simp [sumTo]
theorem sumTo_succ (p : List Int) (k : Nat) (h : k < p.length) : sumTo p (k + 1) = wrap64 (sumTo p k + p.getD k 0) := by
  unfold sumTo; rw [Tm.take_snoc p k h, List.foldl_append]; rfl
def monSum (p : List Int) : Int := sumTo p p.length

set_option maxHeartbeats 400000 in
theorem c110 (n a b : Int) (w : World) : Calls Try.prog 110 #[.int .i64 n, .int .i64 a, .int .i64 b] w fun e w' => e = .returned (.bool (decide (a ≤ n ∧ n ≤ b))) ∧ w' = w := by
  by_cases h0 : a ≤ n
  · go_enter Try.func110, Try.ntmps110
    go_wp2
    go_ret
    exact ⟨ret_bool (by simp [h0]), rfl⟩
  · have h1 : decide (a ≤ n) = false := by simpa using h0
    go_enter Try.func110, Try.ntmps110
    go_wp2
    go_ret
    exact ⟨ret_bool (by simp), rfl⟩

set_option maxHeartbeats 1000000 in
theorem c105 (p : List Int) (ao : Option Addr) (n cap : Nat) (w : World) (hn : p.length = n) (hm : n ≤ 9223372036854775807) (hr : Row w ao p) :
    Calls Try.prog 105 #[.slice ao n cap] w fun e w' => e = .returned (.bool (Tm.monOk p)) ∧ w' = w := by
  subst hn
  have HR := hide hr
  clear hr
  by_cases hl : p.length = 5
  case neg =>
    have HE := hide (Tm.monOk_len hl)
    have b8 : ((p.length : Int) != 5) = true := by rw [bne_iff_ne]; omega
    clear hl
    go_enter Try.func105, Try.ntmps105
    go_wp2_with fail
    go_ret
    exact ⟨ret_bool (unhide HE).symm, rfl⟩
  have b8 : ((p.length : Int) != 5) = false := by rw [bne_eq_false_iff_eq]; omega
  have HL := hide hl
  clear hl
  go_enter Try.func105, Try.ntmps105
  go_wp2_with fail
  go_loop [10] (fun i => ∃ k : Nat, k ≤ p.length ∧ i = .int .i64 k ∧ ∀ j, j < k → 0 ≤ p.getD j 0 ∧ p.getD j 0 ≤ 100000) (fun i => p.length - (intOf i).toNat)
  case atStart => exact ⟨0, Nat.zero_le _, rfl, fun j hj => absurd hj (Nat.not_lt_zero _)⟩
  case round =>
    obtain ⟨k, hk, rfl, hall⟩ := hrel
    have HAL := hide hall
    clear hall
    by_cases hlt : k < p.length
    · obtain ⟨b, off, rfl, hc⟩ := (unhide HR).2 (by intro e; subst e; simp at hlt)
      have hcell := hc k hlt
      by_cases ho : 0 ≤ p.getD k 0 ∧ p.getD k 0 ≤ 100000
      · have HA : Hid (∀ j, j < k + 1 → 0 ≤ p.getD j 0 ∧ p.getD j 0 ≤ 100000) := by
          intro j hj
          by_cases e : j = k
          · subst e; exact ho
          · exact unhide HAL j (by omega)
        have hd : decide (0 ≤ p.getD k 0 ∧ p.getD k 0 ≤ 100000) = true := by simpa using ho
        clear hc ho
        generalize p.getD k 0 = x at *
        go_wp2_with (go_at_call 110; refine (c110 _ _ _ _).mono ?_; rintro e w' ⟨rfl, rfl⟩)
        go_round
        case rel => exact ⟨k + 1, by omega, by go_num, HA.out⟩
        case measure => simp [intOf]; omega
      · have HE := hide (Tm.monOk_at hlt ho)
        have hd : decide (0 ≤ p.getD k 0 ∧ p.getD k 0 ≤ 100000) = false := by simpa using ho
        clear hc ho
        generalize p.getD k 0 = x at *
        go_wp2_with (go_at_call 110; refine (c110 _ _ _ _).mono ?_; rintro e w' ⟨rfl, rfl⟩)
        go_ret
        exact ⟨ret_bool (unhide HE).symm, rfl⟩
    · have hke : k = p.length := by omega
      subst hke
      have HE := hide (Tm.monOk_all HL.out (unhide HAL))
      go_wp2_with fail
      go_ret
      exact ⟨ret_bool (unhide HE).symm, rfl⟩

set_option maxHeartbeats 1000000 in
theorem c25 (p : List Int) (ao : Option Addr) (n cap : Nat) (w : World) (hn : p.length = n) (hm : n ≤ 9223372036854775807) (hr : Row w ao p) :
    Calls Try.prog 25 #[.slice ao n cap] w fun e w' => e = .returned (.int .i64 (monSum p)) ∧ w' = w := by
  subst hn
  have HR := hide hr
  clear hr
  have HS : Hid (monSum p = sumTo p p.length) := rfl
  go_enter Try.func25, Try.ntmps25
  go_wp2_with fail
  go_loop [3, 8] (fun t i => ∃ k : Nat, k ≤ p.length ∧ i = .int .i64 k ∧ t = .int .i64 (sumTo p k)) (fun _ i => p.length - (intOf i).toNat)
  case atStart => exact ⟨0, Nat.zero_le _, rfl, rfl⟩
  case round =>
    obtain ⟨k, hk, rfl, rfl⟩ := hrel
    by_cases hlt : k < p.length
    · obtain ⟨b, off, rfl, hc⟩ := (unhide HR).2 (by intro e; subst e; simp at hlt)
      have hcell := hc k hlt
      have HN := hide (sumTo_succ p k hlt)
      clear hc
      generalize p.getD k 0 = x at *
      generalize sumTo p k = y at *
      go_wp2_with fail
      go_round
      case rel => exact ⟨k + 1, by omega, by go_num, by rw [unhide HN]⟩
      case measure => simp [intOf]; omega
    · have hke : k = p.length := by omega
      subst hke
      generalize sumTo p p.length = y at *
      go_wp2_with fail
      go_ret
      exact ⟨ret_int (unhide HS).symm, rfl⟩

set_option maxHeartbeats 1000000 in
theorem c24 (p : List Int) (ao : Option Addr) (n cap : Nat) (w : World) (hn : p.length = n) (hm : n ≤ 9223372036854775807) (hr : Row w ao p) :
    Calls Try.prog 24 #[.slice ao n cap] w fun e w' => e = .returned (.bool (Tm.monOk p)) ∧ w' = w := by
  subst hn
  have HR := hide hr
  clear hr
  by_cases hl : p.length = 5
  case neg =>
    have HE := hide (Tm.monOk_len hl)
    have b8 : ((p.length : Int) != 5) = true := by rw [bne_iff_ne]; omega
    clear hl
    go_enter Try.func24, Try.ntmps24
    go_wp2_with fail
    go_ret
    exact ⟨ret_bool (unhide HE).symm, rfl⟩
  have b8 : ((p.length : Int) != 5) = false := by rw [bne_eq_false_iff_eq]; omega
  have HL := hide hl
  clear hl
  go_enter Try.func24, Try.ntmps24
  go_wp2_with fail
  go_loop [3] (fun i => ∃ k : Nat, k ≤ p.length ∧ i = .int .i64 k ∧ ∀ j, j < k → 0 ≤ p.getD j 0 ∧ p.getD j 0 ≤ 100000) (fun i => p.length - (intOf i).toNat)
  case atStart => exact ⟨0, Nat.zero_le _, rfl, fun j hj => absurd hj (Nat.not_lt_zero _)⟩
  case round =>
    obtain ⟨k, hk, rfl, hall⟩ := hrel
    have HAL := hide hall
    clear hall
    by_cases hlt : k < p.length
    · obtain ⟨b, off, rfl, hc⟩ := (unhide HR).2 (by intro e; subst e; simp at hlt)
      have hcell := hc k hlt
      by_cases ho : 0 ≤ p.getD k 0 ∧ p.getD k 0 ≤ 100000
      · have HA : Hid (∀ j, j < k + 1 → 0 ≤ p.getD j 0 ∧ p.getD j 0 ≤ 100000) := by
          intro j hj
          by_cases e : j = k
          · subst e; exact ho
          · exact unhide HAL j (by omega)
        have hd : decide (0 ≤ p.getD k 0 ∧ p.getD k 0 ≤ 100000) = true := by simpa using ho
        clear hc ho
        generalize p.getD k 0 = x at *
        go_wp2_with (go_at_call 109; refine (c109 _ _ _ _).mono ?_; rintro e w' ⟨rfl, rfl⟩)
        go_round
        case rel => exact ⟨k + 1, by omega, by go_num, HA.out⟩
        case measure => simp [intOf]; omega
      · have HE := hide (Tm.monOk_at hlt ho)
        have hd : decide (0 ≤ p.getD k 0 ∧ p.getD k 0 ≤ 100000) = false := by simpa using ho
        clear hc ho
        generalize p.getD k 0 = x at *
        go_wp2_with (go_at_call 109; refine (c109 _ _ _ _).mono ?_; rintro e w' ⟨rfl, rfl⟩)
        go_ret
        exact ⟨ret_bool (unhide HE).symm, rfl⟩
    · have hke : k = p.length := by omega
      subst hke
      have HE := hide (Tm.monOk_all HL.out (unhide HAL))
      go_wp2_with fail
      go_ret
      exact ⟨ret_bool (unhide HE).symm, rfl⟩

set_option maxHeartbeats 1000000 in
theorem c108 (p : List Int) (ao : Option Addr) (n cap : Nat) (w : World) (hn : p.length = n) (hm : n ≤ 9223372036854775807) (hr : Row w ao p) :
    Calls Try.prog 108 #[.slice ao n cap] w fun e w' => e = .returned (.int .i64 (monSum p)) ∧ w' = w := by
  subst hn
  have HR := hide hr
  clear hr
  have HS : Hid (monSum p = sumTo p p.length) := rfl
  go_enter Try.func108, Try.ntmps108
  go_wp2_with fail
  go_loop [3, 4] (fun t i => ∃ k : Nat, k ≤ p.length ∧ i = .int .i64 k ∧ t = .int .i64 (sumTo p k)) (fun _ i => p.length - (intOf i).toNat)
  case atStart => exact ⟨0, Nat.zero_le _, rfl, rfl⟩
  case round =>
    obtain ⟨k, hk, rfl, rfl⟩ := hrel
    by_cases hlt : k < p.length
    · obtain ⟨b, off, rfl, hc⟩ := (unhide HR).2 (by intro e; subst e; simp at hlt)
      have hcell := hc k hlt
      have HN := hide (sumTo_succ p k hlt)
      clear hc
      generalize p.getD k 0 = x at *
      generalize sumTo p k = y at *
      go_wp2_with fail
      go_round
      case rel => exact ⟨k + 1, by omega, by go_num, by rw [unhide HN]⟩
      case measure => simp [intOf]; omega
    · have hke : k = p.length := by omega
      subst hke
      generalize sumTo p p.length = y at *
      go_wp2_with fail
      go_ret
      exact ⟨ret_int (unhide HS).symm, rfl⟩

end Go.Proofs.Ytmlbphmbffkdnaa
namespace Go.Proofs.Ytmlbphmbffkdnaa
open Go.RowKit
set_option linter.unusedVariables false
set_option maxRecDepth 100000

theorem row_none {w : World} {p : List Int} (h : Row w none p) : p = [] := by
  by_cases e : p = []
  · exact e
  · obtain ⟨b, off, h2, -⟩ := h.2 e; cases h2
theorem row_src {w : World} {a : Addr} {p : List Int} (h : Row w (some a) p) : ∀ (j : Nat) (u : Value), (p.map (Value.int .i64))[j]? = some u → w.cell? (a.add j) = some u := by
  intro j u hj
  rw [List.getElem?_map] at hj
  have hjl : j < p.length := by
    rcases Nat.lt_or_ge j p.length with h | h
    · exact h
    · rw [List.getElem?_eq_none h] at hj; cases hj
  obtain ⟨b, off, e, hc⟩ := h.2 (by intro e; subst e; simp at hjl)
  cases e
  have h1 := hc j hjl
  rw [List.getElem?_eq_getElem hjl] at hj
  cases hj
  have e : (Addr.add ⟨b, off, none⟩ j) = ⟨b, off + j, none⟩ := by unfold Addr.add; split <;> simp_all
  rw [e, h1, Tm.getD_eq hjl]
theorem row_alloc {w : World} {ao : Option Addr} {p : List Int} (h : Row w ao p) (o : Obj) : Row (w.alloc o) ao p := h.bel (below_a _)
theorem own_new {w w2 : World} {p : List Int} {v : Value} {n : Nat} (hf : Fits p) (h : w2.ownsRow w.heap.size 3 1 v (0 + p.length) ([] ++ p.map (Value.int .i64))) : Own w2 w.heap.size v p := ⟨hf, by simpa using h⟩
theorem own_cap0 {w : World} {base n cap : Nat} {zs : List Int} (h : Own w base (.slice none n cap) zs) : cap = 0 := by
  rcases h.2.2 with ⟨hv, hz⟩ | ⟨g', cap', cur, hv, rr⟩
  · cases hv; rfl
  · cases hv
theorem grown_rf (w : World) (row : Option Nat) : w.grownBy w row := ⟨rfl, rfl, rfl, Nat.le_refl _, fun _ _ _ => rfl⟩
theorem below_grown0 {a b : World} (h : Below a.heap.size a b) (row : Option Nat) : a.grownBy b row := ⟨h.os, h.tape, h.output, h.size, fun k hk _ => h.block k hk⟩
/-- a list and a yes or no, told together -/
def Told2 (w : World) (zs : List Int) (b : Bool) (e : Ending) (w' : World) : Prop := ∃ v, e = .returned (.tuple #[v, .bool b]) ∧ Own w' w.heap.size v zs ∧ Below w.heap.size w w'

set_option maxHeartbeats 1000000 in
theorem c106 (p : List Int) (ao : Option Addr) (n cap : Nat) (w : World) (hn : p.length = n) (hm : n ≤ 1048576) (hz : ao = none → cap = 0) (hr : Row w ao p) :
    Calls Try.prog 106 #[.slice ao n cap] w (Told w p) := by
  subst hn
  obtain ⟨i0, hi, hz0, hz1, hz2⟩ := info_parts Try.info3
  have HF := hide hr.1
  have HO := hide (owns_nil w w.heap.size 1 3 (Nat.le_refl _))
  cases ao with
  | none =>
    have h0 : p = [] := row_none hr
    subst h0
    have hc0 := hz rfl
    subst hc0
    clear hr hz
    go_enter Try.func106, Try.ntmps106
    go_wp2_with (first | (at_builtin; refine wpList_append_own_none rfl _ _ 23 rfl w.heap.size 3 i0 1 Try.underlying23 hi _ 0 [] rfl (unhide HO) rfl ?_) | fail)
    go_wp2_with fail
    go_ret
    exact ⟨_, rfl, ⟨unhide HF, unhide HO⟩, Below.refl _ _⟩
  | some a =>
    have HC := hide (row_src hr)
    clear hr hz
    go_enter Try.func106, Try.ntmps106
    go_wp2_with (first | (at_builtin; refine wpList_append_own _ rfl _ _ 23 rfl w.heap.size 3 i0 (.int .i64 0) 1 8 Try.underlying23 hi hz0 hz1 hz2 rfl (by decide) _ _ _ rfl (unhide HO) a p.length cap (p.map (Value.int .i64)) rfl (by simp) (unhide HC) (ints_oneCell _ _) (by simp [maxLen]; omega) (by simp; omega) (Nat.le_refl _) ?_; intro v' w2 hown' hgrow _) | fail)
    have HW := hide (own_new (n := 0) (unhide HF) hown')
    have hgrow : w.grownBy w2 none := hgrow
    have HG := hide ((Below.refl w.heap.size w).grown hgrow (Nat.le_refl _) (fun q hq => by cases hq))
    clear hown' hgrow
    go_wp2_with fail
    go_ret
    exact ⟨_, rfl, unhide HW, unhide HG⟩

theorem own_set {w : World} {base g n cap : Nat} {p : List Int} {j : Nat} {x : Int} (h : Own w base (.slice (some ⟨g, 0, none⟩) n cap) p) (hn : p.length = n) (hx : -9223372036854775808 ≤ x ∧ x ≤ 9223372036854775807) :
    Own (w.setCell ⟨g, j, none⟩ (.int .i64 x)) base (.slice (some ⟨g, 0, none⟩) n cap) (p.set j x) ∧ w.grownBy (w.setCell ⟨g, j, none⟩ (.int .i64 x)) (some g) := by
  subst hn
  have hst := h.2.stored j (.int .i64 x)
  refine ⟨⟨fun z hz => ?_, ?_⟩, hst.2⟩
  · rcases List.mem_or_eq_of_mem_set hz with h1 | h1
    · exact h.1 z h1
    · subst h1; exact hx
  · rw [List.length_set, List.map_set]; exact hst.1
theorem own_ne {w : World} {base n cap : Nat} {ao : Option Addr} {p : List Int} (h : Own w base (.slice ao n cap) p) (hp : p ≠ []) : ∃ g, ao = some ⟨g, 0, none⟩ := by
  rcases h.2.2 with ⟨hv, hz⟩ | ⟨g', cap', cur, hv, rr⟩
  · exact absurd (List.eq_nil_of_length_eq_zero hz) hp
  · cases hv; exact ⟨g', rfl⟩
theorem own_cell {w : World} {base g n cap : Nat} {p : List Int} (h : Own w base (.slice (some ⟨g, 0, none⟩) n cap) p) (hn : p.length = n) {j : Nat} (hj : j < p.length) :
    w.cell? ⟨g, j, none⟩ = some (.int .i64 (p.getD j 0)) ∧ w.frozen? ⟨g, j, none⟩ = false := by
  subst hn
  refine ⟨?_, h.2.frozenAt j⟩
  rw [h.2.cellAt j (by omega)]
  simp [List.getD, List.getElem?_eq_getElem hj]

set_option maxHeartbeats 2000000 in
theorem c212 (p : List Int) (u n : Int) (base : Nat) (ao : Option Addr) (m cap : Nat) (w : World) (hm : p.length = m) (hb : m ≤ 1048576) (hn : -9223372036854775808 ≤ n ∧ n ≤ 9223372036854775807) (ho : Own w base (.slice ao m cap) p) :
    Calls Try.prog 212 #[.slice ao m cap, .int .i64 u, .int .i64 n] w fun e w' => e = .returned (.bool (Tm.turnOk p u n)) ∧ Own w' base (.slice ao m cap) (Tm.monTurn p u n) ∧ w.grownBy w' (Value.slice ao m cap).ownBlock := by
  subst hm
  have HR := hide (own_rowI ho)
  have HO := hide ho
  obtain ⟨n1, n2⟩ := hn
  clear ho
  rcases hk : Tm.monOk p with _ | _
  · have hE := Tm.turnOk_no (p := p) (u := u) (n := n) (by simp [hk])
    have HE := hide hE
    have HT := hide (Tm.monTurn_no hE)
    clear hE
    go_enter Try.func212, Try.ntmps212
    go_wp2_with (first | (go_at_call 105; refine (c105 p _ _ _ _ rfl (by omega) (unhide HR)).mono ?_; rintro e w' ⟨rfl, rfl⟩) | (go_at_call 132; refine (c132 _ _).mono ?_; rintro e w' ⟨rfl, rfl⟩) | (go_at_call 110; refine (c110 _ _ _ _).mono ?_; rintro e w' ⟨rfl, rfl⟩))
    go_ret
    exact ⟨ret_bool (unhide HE).symm, by rw [unhide HT]; exact unhide HO, grown_rf _ _⟩
  by_cases hu : 1 ≤ u ∧ u ≤ 5
  case neg =>
    have hE := Tm.turnOk_no (p := p) (u := u) (n := n) (fun e => hu e.2.1)
    have HE := hide hE
    have HT := hide (Tm.monTurn_no hE)
    have hd : decide (1 ≤ u ∧ u ≤ 5) = false := by simpa using hu
    clear hE hu
    go_enter Try.func212, Try.ntmps212
    go_wp2_with (first | (go_at_call 105; refine (c105 p _ _ _ _ rfl (by omega) (unhide HR)).mono ?_; rintro e w' ⟨rfl, rfl⟩) | (go_at_call 132; refine (c132 _ _).mono ?_; rintro e w' ⟨rfl, rfl⟩) | (go_at_call 110; refine (c110 _ _ _ _).mono ?_; rintro e w' ⟨rfl, rfl⟩))
    go_ret
    exact ⟨ret_bool (unhide HE).symm, by rw [unhide HT]; exact unhide HO, grown_rf _ _⟩
  have hd : decide (1 ≤ u ∧ u ≤ 5) = true := by simpa using hu
  by_cases hw : -100000 ≤ n ∧ n ≤ 100000
  case neg =>
    have hE := Tm.turnOk_no (p := p) (u := u) (n := n) (fun e => hw e.2.2.1)
    have HE := hide hE
    have HT := hide (Tm.monTurn_no hE)
    have hd2 : decide (-100000 ≤ n ∧ n ≤ 100000) = false := by simpa using hw
    clear hE hw hu
    go_enter Try.func212, Try.ntmps212
    go_wp2_with (first | (go_at_call 105; refine (c105 p _ _ _ _ rfl (by omega) (unhide HR)).mono ?_; rintro e w' ⟨rfl, rfl⟩) | (go_at_call 132; refine (c132 _ _).mono ?_; rintro e w' ⟨rfl, rfl⟩) | (go_at_call 110; refine (c110 _ _ _ _).mono ?_; rintro e w' ⟨rfl, rfl⟩))
    go_ret
    exact ⟨ret_bool (unhide HE).symm, by rw [unhide HT]; exact unhide HO, grown_rf _ _⟩
  have hd2 : decide (-100000 ≤ n ∧ n ≤ 100000) = true := by simpa using hw
  have hl := (Tm.monOk_iff.1 hk).1
  obtain ⟨g, rfl⟩ := own_ne (unhide HO) (by intro e; subst e; simp at hl)
  obtain ⟨j, rfl⟩ : ∃ j : Nat, u = (j : Int) + 1 := ⟨(u - 1).toNat, by omega⟩
  have hj : j < p.length := by omega
  obtain ⟨hcell, hfr⟩ := own_cell (unhide HO) rfl hj
  have hx := Tm.monOk_get hk (j := j) (by omega)
  have hh := Tm.has_nat p j
  obtain ⟨w1, w2⟩ := hw
  by_cases hs : 0 ≤ p.getD j 0 + n ∧ p.getD j 0 + n ≤ 100000
  · have hE := Tm.turnOk_iff.2 ⟨hk, hu, ⟨w1, w2⟩, by rw [hh]; exact hs⟩
    have HE := hide hE
    have hst := own_set (j := j) (x := p.getD j 0 + n) (unhide HO) rfl (by omega)
    have HT : Hid (Tm.monTurn p ((j : Int) + 1) n = p.set j (p.getD j 0 + n)) := by
      unfold Hid; rw [Tm.monTurn_of hE]; unfold Tm.turnSet; rw [hh, show ((j : Int) + 1 - 1).toNat = j by omega]
    have HS := hide hst
    have hd3 : decide (0 ≤ p.getD j 0 + n ∧ p.getD j 0 + n ≤ 100000) = true := by simpa using hs
    clear hE hu hst hh
    clear hl
    generalize p.getD j 0 = x at *
    obtain ⟨s1, s2⟩ := hs
    obtain ⟨x1, x2⟩ := hx
    go_enter Try.func212, Try.ntmps212
    go_wp2_with (first | (go_at_call 105; refine (c105 p _ _ _ _ rfl (by omega) (unhide HR)).mono ?_; rintro e w' ⟨rfl, rfl⟩) | (go_at_call 132; refine (c132 _ _).mono ?_; rintro e w' ⟨rfl, rfl⟩) | (go_at_call 110; refine (c110 _ _ _ _).mono ?_; rintro e w' ⟨rfl, rfl⟩))
    go_ret
    exact ⟨ret_bool (unhide HE).symm, by rw [unhide HT]; exact (unhide HS).1, (unhide HS).2⟩
  · have hE := Tm.turnOk_no (p := p) (u := (j : Int) + 1) (n := n) (fun e => hs (by rw [hh] at e; exact e.2.2.2))
    have HE := hide hE
    have HT := hide (Tm.monTurn_no hE)
    have hd3 : decide (0 ≤ p.getD j 0 + n ∧ p.getD j 0 + n ≤ 100000) = false := by simpa using hs
    clear hE hs hu hh
    clear hl
    generalize p.getD j 0 = x at *
    obtain ⟨x1, x2⟩ := hx
    go_enter Try.func212, Try.ntmps212
    go_wp2_with (first | (go_at_call 105; refine (c105 p _ _ _ _ rfl (by omega) (unhide HR)).mono ?_; rintro e w' ⟨rfl, rfl⟩) | (go_at_call 132; refine (c132 _ _).mono ?_; rintro e w' ⟨rfl, rfl⟩) | (go_at_call 110; refine (c110 _ _ _ _).mono ?_; rintro e w' ⟨rfl, rfl⟩))
    go_ret
    exact ⟨ret_bool (unhide HE).symm, by rw [unhide HT]; exact unhide HO, grown_rf _ _⟩

set_option maxHeartbeats 1000000 in
theorem c176 (p : List Int) (u n : Int) (ao : Option Addr) (m cap : Nat) (w : World) (hm : p.length = m) (hb : m ≤ 1048576) (hn : -9223372036854775808 ≤ n ∧ n ≤ 9223372036854775807) (hz : ao = none → cap = 0) (hr : Row w ao p) :
    Calls Try.prog 176 #[.slice ao m cap, .int .i64 u, .int .i64 n] w (Told2 w (Tm.monTurn p u n) (Tm.turnOk p u n)) := by
  have HR := hide hr
  have HN := hide hn
  have HM := hide hm
  have HZ := hide hz
  clear hr hn hm hz
  go_enter Try.func176, Try.ntmps176
  go_wp2_with fail
  refine (c106 p ao m cap _ HM.out hb (unhide HZ) (unhide HR)).mono ?_
  rintro e w1 ⟨v, rfl, ho, hb1⟩
  obtain ⟨ao1, cap1, rfl, hcap1, hr1, hbl⟩ := ho.row
  have HO := hide ho
  have HB1 := hide hb1
  have HL := hide hbl
  clear ho hb1 hr1 hbl
  rw [HM.out] at HO hcap1
  rw [HM.out]
  go_wp2_with fail
  refine (c212 p u n _ ao1 m cap1 _ HM.out hb HN.out (unhide HO)).mono ?_
  rintro e w2 ⟨rfl, ho2, hg2⟩
  have HB2 := hide (grown_below (unhide HB1) hg2 (by intro k hk; obtain ⟨a, ha, rfl⟩ := slice_block hk; exact (unhide HL a ha).1))
  have HO2 := hide ho2
  clear ho2 hg2 HB1
  generalize Tm.turnOk p u n = bb at *
  go_wp2_with fail
  go_ret2
  exact ⟨_, rfl, unhide HO2, unhide HB2⟩
end Go.Proofs.Ytmlbphmbffkdnaa
namespace Go.Proofs.Ytmlbphmbffkdnaa
open Go.RowKit
set_option linter.unusedVariables false
set_option maxRecDepth 100000

/-- a copy behind an empty list of the call's own -/
theorem own_copy {w w2 : World} {p : List Int} {v : Value} (hf : Fits p) (h : w2.ownsRow w.heap.size 3 1 v (0 + p.length) ([] ++ p.map (Value.int .i64))) (hg : (w.alloc (.cells #[] 3)).grownBy w2 (some w.heap.size)) : Own w2 w.heap.size v p ∧ Below w.heap.size w w2 :=
  ⟨⟨hf, by simpa using h⟩, (below_a (w := w) (.cells #[] 3)).grown hg (below_a (w := w) (.cells #[] 3)).size (fun q hq => by cases hq; exact Nat.le_refl _)⟩
theorem ret_lb {v : Value} {a b : Bool} (h : a = b) : Ending.returned (.tuple #[v, .bool a]) = .returned (.tuple #[v, .bool b]) := by rw [h]
set_option maxHeartbeats 4000000 in
theorem c177 (p : List Int) (u n : Int) (ao : Option Addr) (m cap : Nat) (w : World) (hm : p.length = m) (hb : m ≤ 1048576) (hn : -9223372036854775808 ≤ n ∧ n ≤ 9223372036854775807) (hz : ao = none → cap = 0) (hr : Row w ao p) :
    Calls Try.prog 177 #[.slice ao m cap, .int .i64 u, .int .i64 n] w (Told2 w (Tm.monTurn p u n) (Tm.turnOk p u n)) := by
  subst hm
  obtain ⟨i0, hi, hz0, hz1, hz2⟩ := info_parts Try.info3
  obtain ⟨n1, n2⟩ := hn
  have HF := hide hr.1
  have HR := hide hr
  have HE := hide (own_empty w w.heap.size (Nat.le_refl _))
  cases ao with
  | none =>
    have h0 : p = [] := row_none hr
    have hc0 := hz rfl
    subst hc0
    subst h0
    clear hr hz
    have hE := Tm.turnOk_no (p := []) (u := u) (n := n) (by simp [Tm.monOk])
    have HT := hide (Tm.monTurn_no hE)
    have hk : Tm.monOk [] = false := by decide
    have HEE := hide hE
    clear hE
    go_enter Try.func177, Try.ntmps177
    go_wp2_with (first | (at_builtin; refine wpList_append_own_none rfl _ _ 23 rfl w.heap.size 3 i0 1 Try.underlying23 hi _ 0 [] rfl (unhide HE).2 rfl ?_) | fail)
    go_wp2_with (first | (go_at_call 24; refine (c24 [] _ _ _ _ rfl (by simp) ((unhide HR).bel (below_a _))).mono ?_; rintro e w' ⟨rfl, rfl⟩) | fail)
    go_ret2
    exact ⟨_, ret_lb (unhide HEE).symm, by rw [unhide HT]; exact unhide HE, below_a _⟩
  | some a =>
    have HC := hide (row_src (row_alloc hr (.cells #[] 3)))
    clear hr hz
    go_enter Try.func177, Try.ntmps177
    go_wp2_with (first | (at_builtin; refine wpList_append_own _ rfl _ _ 23 rfl w.heap.size 3 i0 (.int .i64 0) 1 8 Try.underlying23 hi hz0 hz1 hz2 rfl (by decide) _ _ _ rfl (unhide HE).2 a p.length cap (p.map (Value.int .i64)) rfl (by simp) (unhide HC) (ints_oneCell _ _) (by simp [maxLen]; omega) (by simp; omega) (by simp) ?_; intro v' w3 hown' hgrow _) | fail)
    have hcp := own_copy (unhide HF) hown' hgrow
    clear hown' hgrow
    obtain ⟨ao1, cap1, rfl, hcap1, -, -⟩ := hcp.1.row
    have hres := hcp
    have HO := hide hres.1
    have HB := hide hres.2
    have HR2 := hide ((unhide HR).bel hres.2)
    clear hres hcp
    rcases hk : Tm.monOk p with _ | _
    · have hE := Tm.turnOk_no (p := p) (u := u) (n := n) (by simp [hk])
      have HT := hide (Tm.monTurn_no hE)
      have HEE := hide hE
      clear hE
      go_wp2_with (first | (go_at_call 24; refine (c24 p _ _ _ _ rfl (by omega) (unhide HR2)).mono ?_; rintro e w' ⟨rfl, rfl⟩) | (go_at_call 109; refine (c109 _ _ _ _).mono ?_; rintro e w' ⟨rfl, rfl⟩))
      go_ret2
      exact ⟨_, ret_lb (unhide HEE).symm, by rw [unhide HT]; exact unhide HO, unhide HB⟩
    by_cases hu : 1 ≤ u ∧ u ≤ 5
    case neg =>
      have hE := Tm.turnOk_no (p := p) (u := u) (n := n) (fun e => hu e.2.1)
      have HT := hide (Tm.monTurn_no hE)
      have hd : decide (1 ≤ u ∧ u ≤ 5) = false := by simpa using hu
      have HEE := hide hE
      clear hE hu
      go_wp2_with (first | (go_at_call 24; refine (c24 p _ _ _ _ rfl (by omega) (unhide HR2)).mono ?_; rintro e w' ⟨rfl, rfl⟩) | (go_at_call 109; refine (c109 _ _ _ _).mono ?_; rintro e w' ⟨rfl, rfl⟩))
      go_ret2
      exact ⟨_, ret_lb (unhide HEE).symm, by rw [unhide HT]; exact unhide HO, unhide HB⟩
    have hd : decide (1 ≤ u ∧ u ≤ 5) = true := by simpa using hu
    by_cases hw : -100000 ≤ n ∧ n ≤ 100000
    case neg =>
      have hE := Tm.turnOk_no (p := p) (u := u) (n := n) (fun e => hw e.2.2.1)
      have HT := hide (Tm.monTurn_no hE)
      have hd2 : decide (-100000 ≤ n ∧ n ≤ 100000) = false := by simpa using hw
      have HEE := hide hE
      clear hE hw hu
      go_wp2_with (first | (go_at_call 24; refine (c24 p _ _ _ _ rfl (by omega) (unhide HR2)).mono ?_; rintro e w' ⟨rfl, rfl⟩) | (go_at_call 109; refine (c109 _ _ _ _).mono ?_; rintro e w' ⟨rfl, rfl⟩))
      go_ret2
      exact ⟨_, ret_lb (unhide HEE).symm, by rw [unhide HT]; exact unhide HO, unhide HB⟩
    have hd2 : decide (-100000 ≤ n ∧ n ≤ 100000) = true := by simpa using hw
    have hl := (Tm.monOk_iff.1 hk).1
    obtain ⟨g, rfl⟩ := own_ne (unhide HO) (by intro e; subst e; simp at hl)
    obtain ⟨b0, off0, hbo, hc0⟩ := (unhide HR2).2 (by intro e; subst e; simp at hl)
    obtain ⟨j, rfl⟩ : ∃ j : Nat, u = (j : Int) + 1 := ⟨(u - 1).toNat, by omega⟩
    have hj : j < p.length := by omega
    have hcell0 := hc0 j hj
    cases hbo
    obtain ⟨hcell, hfr⟩ := own_cell (unhide HO) rfl hj
    have hx := Tm.monOk_get hk (j := j) (by omega)
    have hh := Tm.has_nat p j
    have hgb : w.heap.size ≤ g := ((unhide HO).2.lt g rfl).1
    obtain ⟨w1, w2⟩ := hw
    clear hc0
    by_cases hs : 0 ≤ p.getD j 0 + n ∧ p.getD j 0 + n ≤ 100000
    · have hE := Tm.turnOk_iff.2 ⟨hk, hu, ⟨w1, w2⟩, by rw [hh]; exact hs⟩
      have hst := own_set (j := j) (x := p.getD j 0 + n) (unhide HO) rfl (by omega)
      have HT : Hid (Tm.monTurn p ((j : Int) + 1) n = p.set j (p.getD j 0 + n)) := by
        unfold Hid; rw [Tm.monTurn_of hE]; unfold Tm.turnSet; rw [hh, show ((j : Int) + 1 - 1).toNat = j by omega]
      have HS := hide hst
      have hd3 : decide (0 ≤ p.getD j 0 + n ∧ p.getD j 0 + n ≤ 100000) = true := by simpa using hs
      have HEE := hide hE
      clear hE hu hst hh hl
      generalize p.getD j 0 = x at *
      obtain ⟨s1, s2⟩ := hs
      obtain ⟨x1, x2⟩ := hx
      go_wp2_with (first | (go_at_call 24; refine (c24 p _ _ _ _ rfl (by omega) (unhide HR2)).mono ?_; rintro e w' ⟨rfl, rfl⟩) | (go_at_call 109; refine (c109 _ _ _ _).mono ?_; rintro e w' ⟨rfl, rfl⟩))
      go_ret2
      exact ⟨_, ret_lb (unhide HEE).symm, by rw [unhide HT]; exact (unhide HS).1, grown_below (unhide HB) (unhide HS).2 (fun k hk => by cases hk; exact hgb)⟩
    · have hE := Tm.turnOk_no (p := p) (u := (j : Int) + 1) (n := n) (fun e => hs (by rw [hh] at e; exact e.2.2.2))
      have HT := hide (Tm.monTurn_no hE)
      have hd3 : decide (0 ≤ p.getD j 0 + n ∧ p.getD j 0 + n ≤ 100000) = false := by simpa using hs
      have HEE := hide hE
      clear hE hs hu hh hl
      generalize p.getD j 0 = x at *
      obtain ⟨x1, x2⟩ := hx
      go_wp2_with (first | (go_at_call 24; refine (c24 p _ _ _ _ rfl (by omega) (unhide HR2)).mono ?_; rintro e w' ⟨rfl, rfl⟩) | (go_at_call 109; refine (c109 _ _ _ _).mono ?_; rintro e w' ⟨rfl, rfl⟩))
      go_ret2
      exact ⟨_, ret_lb (unhide HEE).symm, by rw [unhide HT]; exact unhide HO, unhide HB⟩
end Go.Proofs.Ytmlbphmbffkdnaa
