/-
  Texts of the proof, what it needs of them: Mkg.
-/
import Derived.Test.YtmlbphmbffkdnaaGt13
namespace Go.Proofs.Ytmlbphmbffkdnaa
open Go.RowKit
set_option linter.unusedVariables false
set_option maxRecDepth 100000

/-- the mark of an element -/
def mkgE (c j : Nat) : Tm.Ent := (4 * (j : Int) + (c : Int), 4 * (j : Int) + (c : Int) + 1, 4 * (j : Int) + (c : Int) + 1 + 1, 4 * (j : Int) + (c : Int) + 1 + 1 + 1)
def MkdgE (tt : TypeId) (w : World) (base c : Nat) (v : Value) (xs : List Tm.Ent) (e : Ending) (w' : World) : Prop :=
  e = .returned (.int .i64 (4 * (xs.length : Int) + (c : Int))) ∧ w'.ownsRow base tt 4 v xs.length (((List.range xs.length).map (mkgE c)).flatMap eCells) ∧ w.grownBy w' v.ownBlock

set_option maxHeartbeats 1000000 in
theorem c166g {tt : TypeId} (xs : List Tm.Ent) (base c : Nat) (v : Value) (w : World) (hz : xs.length ≤ 1048576) (hcc : c ≤ 100000000) (ho : w.ownsRow base tt 4 v xs.length (xs.flatMap eCells)) :
    Calls Try.prog 166 #[v, .int .i64 (c : Int)] w (MkdgE tt w base c v xs) := by
  rcases ho.2 with ⟨hv, h0⟩ | ⟨g, cap, cur, hv, -⟩
  · have : xs = [] := List.eq_nil_of_length_eq_zero h0
    subst this
    subst hv
    have HO : Hid (w.ownsRow base tt 4 (.slice none 0 0) 0 []) := ho
    clear ho
    go_enter Try.func166, Try.ntmps166
    go_wp2_with fail
    refine wp_loop_rounds 1 ?_
    rw [rounds_succ]
    go_wp2_with fail
    go_ret
    exact ⟨by simp, unhide HO, World.grownBy.refl _ _⟩
  · subst hv
    have HS := hide ho
    clear ho
    go_enter Try.func166, Try.ntmps166
    go_wp2_with fail
    go_loopw [1, 5] (fun kk i wr => ∃ k : Nat, k ≤ xs.length ∧ i = .int .i64 k ∧ kk = .int .i64 (4 * (k : Int) + (c : Int)) ∧ wr.ownsRow base tt 4 (.slice (some ⟨g, 0, none⟩) xs.length cap) xs.length ((markS (mkgE c) xs k).flatMap eCells) ∧ w.grownBy wr (some g)) (fun _ i _ => xs.length - (intOf i).toNat)
    case atStart => exact ⟨0, Nat.zero_le _, rfl, by simp, by rw [markS_zero]; exact unhide HS, World.grownBy.refl _ _⟩
    case round =>
      obtain ⟨k, hk, rfl, rfl, hown, hg⟩ := hrel
      clear HS
      by_cases hlt : k < xs.length
      · obtain ⟨p1, p2, ⟨o0, k0⟩, ⟨o1, k1⟩, ⟨o2, k2⟩, ⟨o3, k3⟩, pf⟩ := putE hown (markS_len (mkgE c) xs k hk) hlt (4 * (k : Int) + (c : Int)) (4 * (k : Int) + (c : Int) + 1) (4 * (k : Int) + (c : Int) + 1 + 1) (4 * (k : Int) + (c : Int) + 1 + 1 + 1)
        have HMS := hide (markS_set (mkgE c) xs k hlt)
        have H1 := hide p1
        have H2 := hide (grow_trans hg p2)
        clear p1 p2 hown hg
        go_wp2_with fail
        go_roundw
        case rel => exact ⟨k + 1, by omega, by go_num, by go_num, by rw [← unhide HMS]; exact unhide H1, unhide H2⟩
        case measure => simp [intOf]; omega
      · have hke : k = xs.length := by omega
        subst hke
        rw [markS_all] at hown
        have H1 := hide hown
        have H2 := hide hg
        clear hown hg
        go_wp2_with fail
        go_ret
        exact ⟨rfl, unhide H1, unhide H2⟩

set_option maxHeartbeats 1000000 in
theorem c168g (m c : Nat) (ao : Option Addr) (cap : Nat) (w : World) (hz : m ≤ 1048576) (hcc : c ≤ 100000000) (hr : Sl eCells w ao ((List.range m).map (mkgE c))) :
    Calls Try.prog 168 #[.slice ao m cap, .int .i64 (c : Int)] w fun e w' => e = .returned (.int .i64 (4 * (m : Int) + (c : Int))) ∧ w' = w := by
  have HR := hide hr
  clear hr
  go_enter Try.func168, Try.ntmps168
  go_wp2_with fail
  go_loop [1, 5] (fun kk i => ∃ k : Nat, k ≤ m ∧ i = .int .i64 k ∧ kk = .int .i64 (4 * (k : Int) + (c : Int))) (fun _ i => m - (intOf i).toNat)
  case atStart => exact ⟨0, Nat.zero_le _, rfl, by simp⟩
  case round =>
    obtain ⟨k, hk, rfl, rfl⟩ := hrel
    by_cases hlt : k < m
    · obtain ⟨b, off, rfl, hc⟩ := unhide HR (by intro e; have := congrArg List.length e; simp at this; omega)
      obtain ⟨g0, g1, g2, g3⟩ := e_cells (Below.refl _ _) hc (marks_at (mkgE c) m k hlt)
      clear hc
      go_wp2_with fail
      go_round
      case rel => exact ⟨k + 1, by omega, by go_num, by go_num⟩
      case measure => simp [intOf]; omega
    · have hke : k = m := by omega
      subst hke
      go_wp2_with fail
      go_ret
      exact ⟨rfl, rfl⟩

/-- the mark of an element -/
def mkgD (c j : Nat) : Tm.Deal := (5 * (j : Int) + (c : Int), 5 * (j : Int) + (c : Int) + 1, 5 * (j : Int) + (c : Int) + 1 + 1, 5 * (j : Int) + (c : Int) + 1 + 1 + 1, 5 * (j : Int) + (c : Int) + 1 + 1 + 1 + 1)
def MkdgD (tt : TypeId) (w : World) (base c : Nat) (v : Value) (xs : List Tm.Deal) (e : Ending) (w' : World) : Prop :=
  e = .returned (.int .i64 (5 * (xs.length : Int) + (c : Int))) ∧ w'.ownsRow base tt 5 v xs.length (((List.range xs.length).map (mkgD c)).flatMap dCells) ∧ w.grownBy w' v.ownBlock

set_option maxHeartbeats 1000000 in
theorem c167g {tt : TypeId} (xs : List Tm.Deal) (base c : Nat) (v : Value) (w : World) (hz : xs.length ≤ 1048576) (hcc : c ≤ 100000000) (ho : w.ownsRow base tt 5 v xs.length (xs.flatMap dCells)) :
    Calls Try.prog 167 #[v, .int .i64 (c : Int)] w (MkdgD tt w base c v xs) := by
  rcases ho.2 with ⟨hv, h0⟩ | ⟨g, cap, cur, hv, -⟩
  · have : xs = [] := List.eq_nil_of_length_eq_zero h0
    subst this
    subst hv
    have HO : Hid (w.ownsRow base tt 5 (.slice none 0 0) 0 []) := ho
    clear ho
    go_enter Try.func167, Try.ntmps167
    go_wp2_with fail
    refine wp_loop_rounds 1 ?_
    rw [rounds_succ]
    go_wp2_with fail
    go_ret
    exact ⟨by simp, unhide HO, World.grownBy.refl _ _⟩
  · subst hv
    have HS := hide ho
    clear ho
    go_enter Try.func167, Try.ntmps167
    go_wp2_with fail
    go_loopw [1, 5] (fun kk i wr => ∃ k : Nat, k ≤ xs.length ∧ i = .int .i64 k ∧ kk = .int .i64 (5 * (k : Int) + (c : Int)) ∧ wr.ownsRow base tt 5 (.slice (some ⟨g, 0, none⟩) xs.length cap) xs.length ((markS (mkgD c) xs k).flatMap dCells) ∧ w.grownBy wr (some g)) (fun _ i _ => xs.length - (intOf i).toNat)
    case atStart => exact ⟨0, Nat.zero_le _, rfl, by simp, by rw [markS_zero]; exact unhide HS, World.grownBy.refl _ _⟩
    case round =>
      obtain ⟨k, hk, rfl, rfl, hown, hg⟩ := hrel
      clear HS
      by_cases hlt : k < xs.length
      · obtain ⟨p1, p2, ⟨o0, k0⟩, ⟨o1, k1⟩, ⟨o2, k2⟩, ⟨o3, k3⟩, ⟨o4, k4⟩, pf⟩ := putD hown (markS_len (mkgD c) xs k hk) hlt (5 * (k : Int) + (c : Int)) (5 * (k : Int) + (c : Int) + 1) (5 * (k : Int) + (c : Int) + 1 + 1) (5 * (k : Int) + (c : Int) + 1 + 1 + 1) (5 * (k : Int) + (c : Int) + 1 + 1 + 1 + 1)
        have HMS := hide (markS_set (mkgD c) xs k hlt)
        have H1 := hide p1
        have H2 := hide (grow_trans hg p2)
        clear p1 p2 hown hg
        go_wp2_with fail
        go_roundw
        case rel => exact ⟨k + 1, by omega, by go_num, by go_num, by rw [← unhide HMS]; exact unhide H1, unhide H2⟩
        case measure => simp [intOf]; omega
      · have hke : k = xs.length := by omega
        subst hke
        rw [markS_all] at hown
        have H1 := hide hown
        have H2 := hide hg
        clear hown hg
        go_wp2_with fail
        go_ret
        exact ⟨rfl, unhide H1, unhide H2⟩

set_option maxHeartbeats 1000000 in
theorem c169g (m c : Nat) (ao : Option Addr) (cap : Nat) (w : World) (hz : m ≤ 1048576) (hcc : c ≤ 100000000) (hr : Sl dCells w ao ((List.range m).map (mkgD c))) :
    Calls Try.prog 169 #[.slice ao m cap, .int .i64 (c : Int)] w fun e w' => e = .returned (.int .i64 (5 * (m : Int) + (c : Int))) ∧ w' = w := by
  have HR := hide hr
  clear hr
  go_enter Try.func169, Try.ntmps169
  go_wp2_with fail
  go_loop [1, 5] (fun kk i => ∃ k : Nat, k ≤ m ∧ i = .int .i64 k ∧ kk = .int .i64 (5 * (k : Int) + (c : Int))) (fun _ i => m - (intOf i).toNat)
  case atStart => exact ⟨0, Nat.zero_le _, rfl, by simp⟩
  case round =>
    obtain ⟨k, hk, rfl, rfl⟩ := hrel
    by_cases hlt : k < m
    · obtain ⟨b, off, rfl, hc⟩ := unhide HR (by intro e; have := congrArg List.length e; simp at this; omega)
      obtain ⟨g0, g1, g2, g3, g4⟩ := d_cells (Below.refl _ _) hc (marks_at (mkgD c) m k hlt)
      clear hc
      go_wp2_with fail
      go_round
      case rel => exact ⟨k + 1, by omega, by go_num, by go_num⟩
      case measure => simp [intOf]; omega
    · have hke : k = m := by omega
      subst hke
      go_wp2_with fail
      go_ret
      exact ⟨rfl, rfl⟩
/-- the marks from c on of a list, the first so many; behind them what was there -/
def markedg (c : Nat) (zs : List Int) (k : Nat) : List Int := (List.range k).map (fun j => ((j + c : Nat) : Int)) ++ zs.drop k
theorem markedg_len (c : Nat) (zs : List Int) (k : Nat) (h : k ≤ zs.length) : (markedg c zs k).length = zs.length := by simp [markedg]; omega
theorem markedg_zero (c : Nat) (zs : List Int) : markedg c zs 0 = zs := by simp [markedg]
theorem markedg_set (c : Nat) (zs : List Int) (k : Nat) (h : k < zs.length) : (markedg c zs k).set k ((k + c : Nat) : Int) = markedg c zs (k + 1) := by
  unfold markedg
  rw [List.set_append, if_neg (by simp)]
  have e : k - ((List.range k).map (fun j => ((j + c : Nat) : Int))).length = 0 := by simp
  rw [e, List.drop_eq_getElem_cons h, List.set_cons_zero, List.range_succ, List.map_append, List.append_assoc]
  rfl
theorem markedg_map_set (c : Nat) (zs : List Int) (k : Nat) (h : k < zs.length) : ((markedg c zs k).map (Value.int .i64)).set k (.int .i64 ((k : Int) + (c : Int))) = (markedg c zs (k + 1)).map (Value.int .i64) := by
  rw [← markedg_set c zs k h, List.map_set]
  congr 1
theorem markedg_get (c : Nat) (zs : List Int) (j : Nat) (h : j < zs.length) : (markedg c zs zs.length).getD j 0 = (j : Int) + (c : Int) := by
  unfold markedg
  rw [List.getD_eq_getElem?_getD, List.getElem?_append_left (by simpa using h)]
  simp [h]
theorem markedg_fits (c : Nat) (zs : List Int) (hcc : c ≤ 100000000) (h : zs.length ≤ 1048576) : Fits (markedg c zs zs.length) := by
  intro z hz
  unfold markedg at hz
  simp at hz
  obtain ⟨j, hj, rfl⟩ := hz
  omega

/-- what a marking leaves: the list holds its marks, and no other block is written -/
def Markedg (w : World) (base c : Nat) (v : Value) (zs : List Int) (e : Ending) (w' : World) : Prop :=
  e = .returned (.int .i64 ((zs.length : Int) + (c : Int))) ∧ Own w' base v (markedg c zs zs.length) ∧ w.grownBy w' v.ownBlock

set_option maxHeartbeats 1000000 in
theorem c93g (zs : List Int) (base c : Nat) (v : Value) (w : World) (hz : zs.length ≤ 1048576) (hcc : c ≤ 100000000) (ho : Own w base v zs) :
    Calls Try.prog 93 #[v, .int .i64 (c : Int)] w (Markedg w base c v zs) := by
  have HF := hide (markedg_fits c zs hcc hz)
  obtain ⟨hf, hown⟩ := ho
  rcases hown.2 with ⟨hv, h0⟩ | ⟨g, cap, cur, hv, -⟩
  · have : zs = [] := List.eq_nil_of_length_eq_zero h0
    subst this
    subst hv
    have HO : Hid (Own w base (.slice none 0 0) (markedg c [] 0)) := ⟨fun z hz => by simp [markedg] at hz, by simpa [markedg] using hown⟩
    clear hown hf
    go_enter Try.func93, Try.ntmps93
    go_wp2_with fail
    refine wp_loop_rounds 1 ?_
    rw [rounds_succ]
    go_wp2_with fail
    go_ret
    exact ⟨by simp, unhide HO, World.grownBy.refl _ _⟩
  · subst hv
    have HS := hide hown
    clear hown hf
    go_enter Try.func93, Try.ntmps93
    go_wp2_with fail
    go_loopw [1, 5] (fun kk i wr => ∃ k : Nat, k ≤ zs.length ∧ i = .int .i64 k ∧ kk = .int .i64 ((k : Int) + (c : Int)) ∧ wr.ownsRow base 3 1 (.slice (some ⟨g, 0, none⟩) zs.length cap) zs.length ((markedg c zs k).map (Value.int .i64)) ∧ w.grownBy wr (some g)) (fun _ i _ => zs.length - (intOf i).toNat)
    case atStart => exact ⟨0, Nat.zero_le _, rfl, by simp, by rw [markedg_zero]; exact unhide HS, World.grownBy.refl _ _⟩
    case round =>
      obtain ⟨k, hk, rfl, rfl, hown, hg⟩ := hrel
      clear HS
      by_cases hlt : k < zs.length
      · have hold : ∃ u, wr.cell? ⟨g, k, none⟩ = some u := by
          rw [hown.cellAt k (by omega)]
          exact ⟨_, List.getElem?_eq_getElem (by rw [List.length_map, markedg_len _ _ _ hk]; exact hlt)⟩
        obtain ⟨vold, hold⟩ := hold
        have hfr := hown.frozenAt k
        have hst := hown.stored k (.int .i64 ((k : Int) + (c : Int)))
        rw [markedg_map_set c zs k hlt] at hst
        have H1 := hide hst.1
        have H2 := hide (grown_trans hg hst.2)
        clear hst hown hg
        go_wp2_with fail
        go_roundw
        case rel => exact ⟨k + 1, by omega, by go_num, by go_num, unhide H1, unhide H2⟩
        case measure => simp [intOf]; omega
      · have hke : k = zs.length := by omega
        subst hke
        have H1 := hide hown
        have H2 := hide hg
        clear hown hg
        go_wp2_with fail
        go_ret
        exact ⟨rfl, ⟨unhide HF, by rw [markedg_len _ _ _ (Nat.le_refl _)]; exact unhide H1⟩, unhide H2⟩

set_option maxHeartbeats 1000000 in
theorem c102g (zs : List Int) (c : Nat) (ao : Option Addr) (n cap : Nat) (w : World) (hn : zs.length = n) (hz : n ≤ 1048576) (hcc : c ≤ 100000000) (hr : Row w ao (markedg c zs zs.length)) :
    Calls Try.prog 102 #[.slice ao n cap, .int .i64 (c : Int)] w fun e w' => e = .returned (.int .i64 ((n : Int) + (c : Int))) ∧ w' = w := by
  subst hn
  have hl := markedg_len c zs zs.length (Nat.le_refl _)
  by_cases h0 : zs = []
  · subst h0
    clear hr hl
    go_enter Try.func102, Try.ntmps102
    go_wp2_with fail
    refine wp_loop_rounds 1 ?_
    rw [rounds_succ]
    go_wp2_with fail
    go_ret
    exact ⟨by simp, rfl⟩
  · obtain ⟨b, off, rfl, hc⟩ := hr.2 (by intro e; rw [e] at hl; simp at hl; exact h0 (List.eq_nil_of_length_eq_zero hl.symm))
    have HC := hide hc
    have HL := hide hl
    clear hr hc hl
    go_enter Try.func102, Try.ntmps102
    go_wp2_with fail
    go_loop [1, 5] (fun kk i => ∃ k : Nat, k ≤ zs.length ∧ i = .int .i64 k ∧ kk = .int .i64 ((k : Int) + (c : Int))) (fun _ i => zs.length - (intOf i).toNat)
    case atStart => exact ⟨0, Nat.zero_le _, rfl, by simp⟩
    case round =>
      obtain ⟨k, hk, rfl, rfl⟩ := hrel
      by_cases hlt : k < zs.length
      · have hcell := unhide HC k (by rw [unhide HL]; exact hlt)
        rw [markedg_get c zs k hlt] at hcell
        go_wp2_with fail
        go_round
        case rel => exact ⟨k + 1, by omega, by go_num, by go_num⟩
        case measure => simp [intOf]; omega
      · have hke : k = zs.length := by omega
        subst hke
        go_wp2_with fail
        go_ret
        exact ⟨rfl, rfl⟩
end Go.Proofs.Ytmlbphmbffkdnaa
