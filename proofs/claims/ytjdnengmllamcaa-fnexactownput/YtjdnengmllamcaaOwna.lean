/-
  The walks of chapter 5 over rows: the leaf of one, which tickets somebody has, how many.
-/
import Derived.Test.YtjdnengmllamcaaEnm
import Derived.Test.YtjdnengmllamcaaLstr
namespace Go.Proofs.Ytjdnengmllamcaa
open Go.RowKit
set_option linter.unusedVariables false
set_option maxRecDepth 100000

def usedI (b : Bool) : Int := if b then 1 else 0
/-- the leaf of how a ticket stands -/
def Tm.ownLeaf (t : Int) (r : Tm.Rw) : Int := if 0 ≤ t ∧ t ≤ 7 then Tm.leaf [1000 + t, r.1, r.2.1, usedI r.2.2] else 0
theorem ownLeaf_of {t a c : Int} {d : Bool} (h : 0 ≤ t ∧ t ≤ 7) : Tm.ownLeaf t (a, c, d) = Tm.leaf [1000 + t, a, c, usedI d] := by unfold Tm.ownLeaf; rw [if_pos h]
theorem ownLeaf_no {t : Int} {r : Tm.Rw} (h : ¬ (0 ≤ t ∧ t ≤ 7)) : Tm.ownLeaf t r = 0 := by unfold Tm.ownLeaf; rw [if_neg h]
theorem fit_own {t a c : Int} {d : Bool} (h : 0 ≤ t ∧ t ≤ 7) (hf : FitR (a, c, d)) : FitsE (1000 + t) a c (usedI d) := by
  refine ⟨by omega, hf.1, hf.2, ?_⟩
  cases d <;> simp [usedI]
/-- the places of rows that are somebody's, rising -/
def ownTo (rs : List Tm.Rw) (u : Int) : Nat → List Int
  | 0 => []
  | k + 1 => match rs[k]? with
    | some r => if r.1 = u then ownTo rs u k ++ [(k : Int)] else ownTo rs u k
    | none => ownTo rs u k
def Tm.ownOf (rs : List Tm.Rw) (u : Int) : List Int := ownTo rs u rs.length
theorem ownTo_yes {rs : List Tm.Rw} {u : Int} {k : Nat} {a c : Int} {d : Bool} (h : rs[k]? = some (a, c, d)) (hu : a = u) : ownTo rs u (k + 1) = ownTo rs u k ++ [(k : Int)] := by simp [ownTo, h, hu]
theorem ownTo_not {rs : List Tm.Rw} {u : Int} {k : Nat} {a c : Int} {d : Bool} (h : rs[k]? = some (a, c, d)) (hu : a ≠ u) : ownTo rs u (k + 1) = ownTo rs u k := by simp [ownTo, h, hu]
theorem ownTo_len (rs : List Tm.Rw) (u : Int) : ∀ k, (ownTo rs u k).length ≤ k := by
  intro k
  induction k with
  | zero => simp [ownTo]
  | succ k ih =>
    simp only [ownTo]
    split
    · split
      · simp; omega
      · omega
    · omega
theorem r_at {rs : List Tm.Rw} {k : Nat} (h : k < rs.length) : ∃ a c d, rs[k]? = some (a, c, d) := ⟨rs[k].1, rs[k].2.1, rs[k].2.2, List.getElem?_eq_getElem h⟩

set_option maxHeartbeats 800000 in
theorem c61 (t a c : Int) (d : Bool) (w : World) (hf : FitR (a, c, d)) : Calls Try.prog 61 #[.int .i64 t, rowV a c d] w fun e w' => e = .returned (.int .i64 (Tm.ownLeaf t (a, c, d))) ∧ Below w.heap.size w w' := by
  by_cases h0 : 0 ≤ t ∧ t ≤ 7
  · have HE := hide (ownLeaf_of (a := a) (c := c) (d := d) h0)
    have HF := hide (fit_own h0 hf)
    have d0 : decide (0 ≤ t ∧ t ≤ 7) = true := by simpa using h0
    obtain ⟨t0, t1⟩ := h0
    clear hf
    cases d
    all_goals
      go_enter Try.func61, Try.ntmps61
      go_wp2_with (go_at_call 130; refine (c130 _ _).mono ?_; rintro e w' ⟨rfl, rfl⟩)
      first
        | refine (c107 [1000 + t, a, c, 0] _ _ _ _ rfl (by simp) (by first | exact row_new4 _ _ _ _ _ (unhide HF) _ | (have := row_new4 (w.alloc (.cells #[.int .i64 a, .int .i64 c, .bool false] 47)) (1000 + t) a c 0 (unhide HF) 3; simpa using this))).mono ?_
        | refine (c107 [1000 + t, a, c, 1] _ _ _ _ rfl (by simp) (by first | exact row_new4 _ _ _ _ _ (unhide HF) _ | (have := row_new4 (w.alloc (.cells #[.int .i64 a, .int .i64 c, .bool true] 47)) (1000 + t) a c 1 (unhide HF) 3; simpa using this))).mono ?_
      rintro e w1 ⟨rfl, rfl⟩
      go_wp2_with fail
      go_ret
      exact ⟨ret_int (by rw [unhide HE]; rfl), below_al (below_a _)⟩
  · have HE := hide (ownLeaf_no (r := (a, c, d)) h0)
    have d0 : decide (0 ≤ t ∧ t ≤ 7) = false := by simpa using h0
    clear h0 hf
    go_enter Try.func61, Try.ntmps61
    go_wp2_with (go_at_call 130; refine (c130 _ _).mono ?_; rintro e w' ⟨rfl, rfl⟩)
    go_ret
    exact ⟨ret_int (unhide HE).symm, below_a _⟩

set_option maxHeartbeats 800000 in
theorem c69 (t a c : Int) (d : Bool) (w : World) (hf : FitR (a, c, d)) : Calls Try.prog 69 #[.int .i64 t, rowV a c d] w fun e w' => e = .returned (.int .i64 (Tm.ownLeaf t (a, c, d))) ∧ Below w.heap.size w w' := by
  by_cases h0 : 0 ≤ t ∧ t ≤ 7
  · have HE := hide (ownLeaf_of (a := a) (c := c) (d := d) h0)
    have HF := hide (fit_own h0 hf)
    have d0 : decide (0 ≤ t ∧ t ≤ 7) = true := by simpa using h0
    obtain ⟨t0, t1⟩ := h0
    clear hf
    cases d
    all_goals
      go_enter Try.func69, Try.ntmps69
      go_wp2_with (go_at_call 109; refine (c109 _ _ _ _).mono ?_; rintro e w' ⟨rfl, rfl⟩)
      first
        | refine (c108 [1000 + t, a, c, 0] _ _ _ _ rfl (by simp) (by first | exact row_new4 _ _ _ _ _ (unhide HF) _ | (have := row_new4 (w.alloc (.cells #[.int .i64 a, .int .i64 c, .bool false] 47)) (1000 + t) a c 0 (unhide HF) 3; simpa using this))).mono ?_
        | refine (c108 [1000 + t, a, c, 1] _ _ _ _ rfl (by simp) (by first | exact row_new4 _ _ _ _ _ (unhide HF) _ | (have := row_new4 (w.alloc (.cells #[.int .i64 a, .int .i64 c, .bool true] 47)) (1000 + t) a c 1 (unhide HF) 3; simpa using this))).mono ?_
      rintro e w1 ⟨rfl, rfl⟩
      go_wp2_with fail
      go_ret
      exact ⟨ret_int (by rw [unhide HE]; rfl), below_al (below_a _)⟩
  · have HE := hide (ownLeaf_no (r := (a, c, d)) h0)
    have d0 : decide (0 ≤ t ∧ t ≤ 7) = false := by simpa using h0
    clear h0 hf
    go_enter Try.func69, Try.ntmps69
    go_wp2_with (go_at_call 109; refine (c109 _ _ _ _).mono ?_; rintro e w' ⟨rfl, rfl⟩)
    go_ret
    exact ⟨ret_int (unhide HE).symm, below_a _⟩

set_option maxHeartbeats 1000000 in
theorem c71 (rs : List Tm.Rw) (u : Int) (ao : Option Addr) (n cap : Nat) (w : World) (hn : rs.length = n) (hm : n ≤ 1048576) (hr : RRow w ao rs) :
    Calls Try.prog 71 #[.slice ao n cap, .int .i64 u] w (Told w (Tm.ownOf rs u)) := by
  subst hn
  obtain ⟨hfit, hr⟩ := hr
  obtain ⟨i0, hi, hz0, hz1, hz2⟩ := info_parts Try.info3
  have HO := hide (own_nil w)
  have HR := hide hr
  clear hr hfit
  go_enter Try.func71, Try.ntmps71
  go_wp2_with fail
  go_loopw [5, 10] (fun v i wr => ∃ k : Nat, k ≤ rs.length ∧ i = .int .i64 k ∧ Own wr w.heap.size v (ownTo rs u k) ∧ Below w.heap.size w wr) (fun _ i _ => rs.length - (intOf i).toNat)
  case atStart => exact ⟨0, Nat.zero_le _, rfl, unhide HO, Below.refl _ _⟩
  case round =>
    obtain ⟨k, hk, rfl, hown, hbel⟩ := hrel
    by_cases hlt : k < rs.length
    · obtain ⟨b, off, rfl, hc⟩ := unhide HR (by intro e; subst e; simp at hlt)
      obtain ⟨x0, x1, x2, hx⟩ := r_at hlt
      obtain ⟨g0, g1, g2⟩ := r_cells hbel hc hx
      have hlen := ownTo_len rs u k
      have HOW := hide hown
      have HBE := hide hbel
      have HN : Hid (-9223372036854775808 ≤ (k : Int) ∧ (k : Int) ≤ 9223372036854775807) := ⟨by omega, by omega⟩
      by_cases hu : x0 = u
      · have HT := hide (ownTo_yes hx hu)
        subst hu
        clear hown hbel hc hx HO
        generalize ownTo rs x0 k = zs at *
        go_wp2_with (first | (at_builtin; refine wpList_append_own _ rfl _ _ 28 rfl w.heap.size 3 i0 (.int .i64 0) 1 8 Try.underlying28 hi hz0 hz1 hz2 rfl (by decide) _ _ _ rfl (((unhide HOW).2.alloc _).alloc _) ⟨wr.heap.size + 1, 0, none⟩ 1 1 [.int .i64 k] rfl rfl (news_new (by simp)) (by simp [Value.oneCell']) (by unfold maxLen; omega) (by omega) (by have := (unhide HBE).size; simp; omega) ?_; intro v' w4 hown' hgrow _) | fail)
        have hfin : Own w4 w.heap.size v' (zs ++ [(k : Int)]) ∧ Below w.heap.size w w4 := ⟨own_snoc (unhide HOW).1 (unhide HN) hown', (below_al (below_al (unhide HBE))).grown hgrow (below_al (below_al (unhide HBE))).size (fun j hj => own_block (unhide HOW) j hj)⟩
        have H1 := hide hfin
        clear hfin hown' hgrow
        go_wp2_with fail
        go_roundw
        case rel => exact ⟨k + 1, by omega, by go_num, by rw [unhide HT]; exact (unhide H1).1, (unhide H1).2⟩
        case measure => simp [intOf]; omega
      · have hb : (x0 == u) = false := by simpa using hu
        have HT := hide (ownTo_not hx hu)
        clear hown hbel hc hx HO hu
        go_wp2_with fail
        go_roundw
        case rel => exact ⟨k + 1, by omega, by go_num, by rw [unhide HT]; exact (unhide HOW).below (below_a _), below_al (unhide HBE)⟩
        case measure => simp [intOf]; omega
    · have hke : k = rs.length := by omega
      subst hke
      have H1 := hide hown
      have H2 := hide hbel
      clear hown hbel
      go_wp2_with fail
      go_ret
      exact ⟨_, rfl, unhide H1, unhide H2⟩

set_option maxHeartbeats 1000000 in
theorem c72 (rs : List Tm.Rw) (u : Int) (ao : Option Addr) (n cap : Nat) (w : World) (hn : rs.length = n) (hm : n ≤ 1048576) (hr : RRow w ao rs) :
    Calls Try.prog 72 #[.slice ao n cap, .int .i64 u] w (Told w (Tm.ownOf rs u)) := by
  subst hn
  obtain ⟨hfit, hr⟩ := hr
  obtain ⟨i0, hi, hz0, hz1, hz2⟩ := info_parts Try.info3
  have HO := hide (own_empty w w.heap.size (Nat.le_refl _))
  have HR := hide hr
  clear hr hfit
  go_enter Try.func72, Try.ntmps72
  go_wp2_with fail
  go_loopw [5, 6] (fun v i wr => ∃ k : Nat, k ≤ rs.length ∧ i = .int .i64 k ∧ Own wr w.heap.size v (ownTo rs u k) ∧ Below w.heap.size w wr) (fun _ i _ => rs.length - (intOf i).toNat)
  case atStart => exact ⟨0, Nat.zero_le _, rfl, unhide HO, below_a _⟩
  case round =>
    obtain ⟨k, hk, rfl, hown, hbel⟩ := hrel
    by_cases hlt : k < rs.length
    · obtain ⟨b, off, rfl, hc⟩ := unhide HR (by intro e; subst e; simp at hlt)
      obtain ⟨x0, x1, x2, hx⟩ := r_at hlt
      obtain ⟨g0, g1, g2⟩ := r_cells hbel hc hx
      have hlen := ownTo_len rs u k
      have HOW := hide hown
      have HBE := hide hbel
      have HN : Hid (-9223372036854775808 ≤ (k : Int) ∧ (k : Int) ≤ 9223372036854775807) := ⟨by omega, by omega⟩
      by_cases hu : x0 = u
      · have HT := hide (ownTo_yes hx hu)
        subst hu
        clear hown hbel hc hx HO
        generalize ownTo rs x0 k = zs at *
        go_wp2_with (first | (at_builtin; refine wpList_append_own _ rfl _ _ 28 rfl w.heap.size 3 i0 (.int .i64 0) 1 8 Try.underlying28 hi hz0 hz1 hz2 rfl (by decide) _ _ _ rfl ((unhide HOW).2.alloc _) ⟨wr.heap.size, 0, none⟩ 1 1 [.int .i64 k] rfl rfl (news_new (by simp)) (by simp [Value.oneCell']) (by unfold maxLen; omega) (by omega) (by have := (unhide HBE).size; simp; omega) ?_; intro v' w4 hown' hgrow _) | fail)
        have hfin : Own w4 w.heap.size v' (zs ++ [(k : Int)]) ∧ Below w.heap.size w w4 := ⟨own_snoc (unhide HOW).1 (unhide HN) hown', (below_al (unhide HBE)).grown hgrow (below_al (unhide HBE)).size (fun j hj => own_block (unhide HOW) j hj)⟩
        have H1 := hide hfin
        clear hfin hown' hgrow
        go_wp2_with fail
        go_roundw
        case rel => exact ⟨k + 1, by omega, by go_num, by rw [unhide HT]; exact (unhide H1).1, (unhide H1).2⟩
        case measure => simp [intOf]; omega
      · have hb : (x0 == u) = false := by simpa using hu
        have HT := hide (ownTo_not hx hu)
        clear hown hbel hc hx HO hu
        go_wp2_with fail
        go_roundw
        case rel => exact ⟨k + 1, by omega, by go_num, by rw [unhide HT]; exact unhide HOW, unhide HBE⟩
        case measure => simp [intOf]; omega
    · have hke : k = rs.length := by omega
      subst hke
      have H1 := hide hown
      have H2 := hide hbel
      clear hown hbel
      go_wp2_with fail
      go_ret
      exact ⟨_, rfl, unhide H1, unhide H2⟩

set_option maxHeartbeats 400000 in
theorem c73 (rs : List Tm.Rw) (u : Int) (ao : Option Addr) (n cap : Nat) (w : World) (hn : rs.length = n) (hm : n ≤ 1048576) (hr : RRow w ao rs) :
    Calls Try.prog 73 #[.slice ao n cap, .int .i64 u] w fun e w' => e = .returned (.int .i64 ((Tm.ownOf rs u).length : Int)) ∧ Below w.heap.size w w' := by
  have HR := hide hr
  have HN := hide hn
  clear hr hn
  go_enter Try.func73, Try.ntmps73
  go_wp2_with fail
  refine (c71 rs u ao n cap _ HN.out hm (unhide HR)).mono ?_
  rintro e w1 ⟨v, rfl, ho, hb⟩
  obtain ⟨av, capv, rfl, -, -, -⟩ := ho.row
  have HB := hide hb
  clear ho hb
  go_wp2_with fail
  go_ret
  exact ⟨rfl, unhide HB⟩

set_option maxHeartbeats 1000000 in
theorem c74 (rs : List Tm.Rw) (u : Int) (ao : Option Addr) (n cap : Nat) (w : World) (hn : rs.length = n) (hm : n ≤ 1048576) (hr : RRow w ao rs) :
    Calls Try.prog 74 #[.slice ao n cap, .int .i64 u] w fun e w' => e = .returned (.int .i64 ((Tm.ownOf rs u).length : Int)) ∧ Below w.heap.size w w' := by
  subst hn
  obtain ⟨hfit, hr⟩ := hr
  have HR := hide hr
  clear hr hfit
  go_enter Try.func74, Try.ntmps74
  go_wp2_with fail
  go_loop [5, 6] (fun m i => ∃ k : Nat, k ≤ rs.length ∧ i = .int .i64 k ∧ m = .int .i64 ((ownTo rs u k).length : Int)) (fun _ i => rs.length - (intOf i).toNat)
  case atStart => exact ⟨0, Nat.zero_le _, rfl, rfl⟩
  case round =>
    obtain ⟨k, hk, rfl, rfl⟩ := hrel
    have hlen := ownTo_len rs u k
    by_cases hlt : k < rs.length
    · obtain ⟨b, off, rfl, hc⟩ := unhide HR (by intro e; subst e; simp at hlt)
      obtain ⟨x0, x1, x2, hx⟩ := r_at hlt
      obtain ⟨g0, g1, g2⟩ := r_cells (Below.refl _ _) hc hx
      by_cases hu : x0 = u
      · have HT := hide (ownTo_yes hx hu)
        subst hu
        clear hc hx
        generalize ownTo rs x0 k = zs at *
        go_wp2_with fail
        go_round
        case rel => exact ⟨k + 1, by omega, by go_num, by rw [unhide HT]; simp⟩
        case measure => simp [intOf]; omega
      · have hb : (x0 == u) = false := by simpa using hu
        have HT := hide (ownTo_not hx hu)
        clear hc hx hu
        go_wp2_with fail
        go_round
        case rel => exact ⟨k + 1, by omega, by go_num, by rw [unhide HT]⟩
        case measure => simp [intOf]; omega
    · have hke : k = rs.length := by omega
      subst hke
      go_wp2_with fail
      go_ret
      exact ⟨rfl, Below.refl _ _⟩
end Go.Proofs.Ytjdnengmllamcaa
