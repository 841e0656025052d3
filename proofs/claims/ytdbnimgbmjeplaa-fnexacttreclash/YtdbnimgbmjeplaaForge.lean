/-
  The walks of the model's draw of a forged proof: l20Inv, l20Left, l20Forge.
-/
import Derived.Test.YtdbnimgbmjeplaaLawsH
import Derived.Test.YtdbnimgbmjeplaaHelps
namespace Go.Proofs.Ytdbnimgbmjeplaa
open Go.RowKit
set_option linter.unusedVariables false

theorem mulmod {a b : Int} (ha : 0 ≤ a ∧ a < 65521) (hb : 0 ≤ b ∧ b < 65521) : 0 ≤ a * b ∧ a * b ≤ 4292870400 := Tm.mul_bd ha hb

set_option maxHeartbeats 1000000 in
theorem c70 (n : Int) (w : World) (h1 : 0 ≤ n) (h2 : n ≤ 1000000) : Calls Try.prog 70 #[.int .i64 n] w fun e w' => ∃ x : Int, e = .returned (.int .i64 x) ∧ (0 ≤ x ∧ x < 65521) ∧ w' = w := by
  have b1 : 0 ≤ n % 65521 := by omega
  have b2 : n % 65521 < 65521 := by omega
  go_enter Try.func70, Try.ntmps70
  go_wp2_with fail
  go_loop [3, 4, 5] (fun tx tb tk => ∃ x b k : Int, (0 ≤ x ∧ x < 65521) ∧ (0 ≤ b ∧ b < 65521) ∧ (0 ≤ k ∧ k ≤ 65519) ∧ tx = .int .i64 x ∧ tb = .int .i64 b ∧ tk = .int .i64 k) (fun _ _ tk => (intOf tk).toNat)
  case atStart => exact ⟨1, _, 65519, by omega, ⟨b1, b2⟩, by omega, rfl, by first | rfl | (congr 1; omega), rfl⟩
  case round =>
    obtain ⟨x, b, k, ⟨x1, x2⟩, ⟨y1, y2⟩, ⟨k1, k2⟩, rfl, rfl, rfl⟩ := hrel
    have hm := mulmod ⟨x1, x2⟩ ⟨y1, y2⟩
    have hn := mulmod ⟨y1, y2⟩ ⟨y1, y2⟩
    obtain ⟨m1, m2⟩ := hm
    obtain ⟨m3, m4⟩ := hn
    by_cases hlt : 0 < k
    · by_cases hodd : k % 2 = 1
      · have ho : (k % 2 == 1) = true := by simpa using hodd
        clear hodd
        go_wp2_with fail
        go_round
        case rel => exact ⟨_, _, k / 2, ⟨by omega, by omega⟩, ⟨by omega, by omega⟩, by omega, rfl, rfl, rfl⟩
        case measure => simp [intOf]; omega
      · have ho : (k % 2 == 1) = false := by simpa using hodd
        clear hodd
        go_wp2_with fail
        go_round
        case rel => exact ⟨_, _, k / 2, ⟨x1, x2⟩, ⟨by omega, by omega⟩, by omega, rfl, rfl, rfl⟩
        case measure => simp [intOf]; omega
    · go_wp2_with fail
      go_ret
      exact ⟨x, rfl, ⟨x1, x2⟩, rfl⟩

def SomeBool (w : World) (e : Ending) (w' : World) : Prop := ∃ b : Bool, e = .returned (.bool b) ∧ w' = w

set_option maxHeartbeats 1000000 in
theorem c69 (n i : Int) (w : World) (n1 : 1 ≤ n) (n2 : n ≤ 40) (i1 : 0 ≤ i) (i2 : i < n) : Calls Try.prog 69 #[.int .i64 n, .int .i64 i] w (SomeBool w) := by
  go_enter Try.func69, Try.ntmps69
  go_wp2_with fail
  go_loop [0, 1, 5] (fun tn ti tb => ∃ (m j : Int) (o : Bool), (1 ≤ m ∧ m ≤ 40) ∧ (0 ≤ j ∧ j < m) ∧ tn = .int .i64 m ∧ ti = .int .i64 j ∧ tb = .bool o) (fun tn _ _ => (intOf tn).toNat)
  case atStart => exact ⟨n, i, true, ⟨n1, n2⟩, ⟨i1, i2⟩, rfl, rfl, rfl⟩
  case round =>
    obtain ⟨m, j, o, ⟨m1, m2⟩, ⟨j1, j2⟩, rfl, rfl, rfl⟩ := hrel
    by_cases hlt : 1 < m
    · have hs := Tm.split_bd (n := m) (by omega) m2
      have hts := Tm.treSplit_of (n := m) (by omega) m2
      obtain ⟨s1, s2, s3⟩ := hs
      have HTS := hide hts
      clear hts
      generalize Tm.split m = s at *
      by_cases hj : j < s
      · go_wp2_with fail
        refine (c60 _ _).mono ?_
        rintro e w' ⟨rfl, rfl⟩
        rw [unhide HTS]
        go_wp2_with fail
        go_round
        case rel => exact ⟨s, j, true, ⟨by omega, by omega⟩, ⟨j1, hj⟩, rfl, rfl, rfl⟩
        case measure => simp [intOf]; omega
      · go_wp2_with fail
        refine (c60 _ _).mono ?_
        rintro e w' ⟨rfl, rfl⟩
        rw [unhide HTS]
        go_wp2_with fail
        go_round
        case rel => exact ⟨m - s, j - s, false, ⟨by omega, by omega⟩, ⟨by omega, by omega⟩, rfl, rfl, by first | rfl | (simp; omega)⟩
        case measure => simp [intOf]; omega
    · go_wp2_with fail
      go_ret
      exact ⟨o, rfl, rfl⟩

/-- what a forged proof is: a leaf's number, and a list of the call's own, as long as the proof was -/
def Forged (w : World) (m : Nat) (e : Ending) (w' : World) : Prop :=
  ∃ (x : Int) (v : Value) (qs : List Int), e = .returned (.tuple #[.int .i64 x, v]) ∧ (0 ≤ x ∧ x < 65521) ∧ Own w' w.heap.size v qs ∧ qs.length = m ∧ Below w.heap.size w w'

theorem fits_tmod (s : Int) : -9223372036854775808 ≤ s.tmod 65521 ∧ s.tmod 65521 ≤ 9223372036854775807 := by have := tmod_bd s; omega

theorem own_set {W : World} {base g n cap : Nat} {ps : List Int} (h : Own W base (.slice (some ⟨g, 0, none⟩) n cap) ps) (hn : ps.length = n) (k : Nat) (s : Int) (hs : -9223372036854775808 ≤ s ∧ s ≤ 9223372036854775807) :
    Own (W.setCell ⟨g, k, none⟩ (.int .i64 s)) base (.slice (some ⟨g, 0, none⟩) n cap) (ps.set k s) := by
  subst hn
  refine ⟨fun z hz => ?_, ?_⟩
  · rcases List.mem_or_eq_of_mem_set hz with h1 | h1
    · exact h.1 z h1
    · subst h1; exact hs
  · have := (h.2.stored k (.int .i64 s)).1
    rw [List.map_set]
    simpa using this

set_option maxHeartbeats 2000000 in
theorem c50 (zs ps : List Int) (i : Nat) (ao bo : Option Addr) (n cap m cap' : Nat) (w : World) (hn : zs.length = n) (hm : ps.length = m) (h40 : n ≤ 40) (hm40 : m ≤ 1048576) (hps : ps ≠ []) (hin : i < n)
    (hx : Tm.okB (zs.getD i 0) = true) (hr : Row w ao zs) (hs : Row w bo ps) :
    Calls Try.prog 50 #[.slice ao n cap, .int .i64 i, .slice bo m cap'] w (Forged w m) := by
  subst hn hm
  obtain ⟨i0, hi0, hz0, hz1, hz2⟩ := info_parts Try.info3
  obtain ⟨b, off, rfl, hcs⟩ := hr.2 (by intro e; subst e; simp at hin)
  obtain ⟨b2, off2, rfl, hds⟩ := hs.2 hps
  have hpl : 0 < ps.length := by cases ps; exact absurd rfl hps; simp
  have HC := hide (hcs i hin)
  have HP := hide (hds 0 hpl)
  have HD := hide hds
  have HF := hide hs.1
  have HE := hide (own_empty w w.heap.size (Nat.le_refl _))
  obtain ⟨x1, x2⟩ := (Tm.okB_iff _).1 hx
  clear hcs hds hr hs hx hps
  generalize zs.getD i 0 = x at *
  have j0 : (0 : Int) ≤ (i : Int) := by omega
  have j1 : (i : Int) < (zs.length : Int) := by omega
  have j2 : (0 : Int) < (ps.length : Int) := by omega
  go_enter Try.func50, Try.ntmps50
  go_wp2_with (first | (at_builtin; refine wpList_append_own _ rfl _ _ 23 rfl w.heap.size 3 i0 (.int .i64 0) 1 8 Try.underlying23 hi0 hz0 hz1 hz2 rfl (by decide) _ _ _ rfl (unhide HE).2 ⟨b2, off2, none⟩ ps.length cap' (ps.map (Value.int .i64)) rfl (by simp) ?c1 (ints_oneCell _ _) ?c3 ?c4 ?c5 ?_) | fail)
  case c1 =>
    intro j u hj
    rw [List.getElem?_map] at hj
    have hjl : j < ps.length := by
      rcases Nat.lt_or_ge j ps.length with h | h
      · exact h
      · rw [List.getElem?_eq_none h] at hj; cases hj
    have h1 := unhide HD j hjl
    rw [List.getElem?_eq_getElem hjl] at hj
    cases hj
    have e : (Addr.add ⟨b2, off2, none⟩ j) = ⟨b2, off2 + j, none⟩ := by unfold Addr.add; split <;> simp_all
    rw [e, World.cell?_alloc_lt _ _ _ (World.block_lt_of_cell? w _ h1), h1, Tm.getD_eq hjl]
  case c3 => simp [maxLen]; omega
  case c4 => simp; omega
  case c5 => simp
  intro v' w2 hown' hgrow _
  have ho2 : Own w2 w.heap.size v' ps := ⟨unhide HF, by simpa using hown'⟩
  have hb2 : Below w.heap.size w w2 := ((Below.refl _ _).alloc (Nat.le_refl _) _).grown hgrow (by simp) (fun q hq => by simp [Value.ownBlock] at hq; omega)
  obtain ⟨ao2, cap2, rfl, hcap2, hr2, hbl2⟩ := ho2.row
  obtain ⟨g, o2, rfl, hc2⟩ := hr2.2 (by intro e; subst e; simp at hpl)
  have hg2 := (hbl2 _ rfl).1
  simp only at hg2
  have ho0 : o2 = 0 := by
    rcases ho2.2.2 with ⟨hv, _⟩ | ⟨g', cap', cur, hv, r⟩
    · cases hv
    · simp only [Value.slice.injEq, Option.some.injEq, Addr.mk.injEq] at hv
      exact hv.1.2.1
  subst ho0
  have hcell : w2.cell? ⟨b, off + i, none⟩ = some (.int .i64 x) := cell_below hb2 (unhide HC)
  have hp0 : w2.cell? ⟨b2, off2, none⟩ = some (.int .i64 (ps.getD 0 0)) := cell_below hb2 (unhide HP)
  have hq0 : w2.cell? ⟨g, 0, none⟩ = some (.int .i64 (ps.getD 0 0)) := hc2 0 hpl
  have hfr := ho2.2.frozenAt 0
  have HS := hide (fun (q : Nat) (s : Int) (h : -9223372036854775808 ≤ s ∧ s ≤ 9223372036854775807) => (show Own ((w2.drewN q).setCell ⟨g, 0, none⟩ (.int .i64 s)) w.heap.size _ (ps.set 0 s) from own_set (W := w2.drewN q) ho2 rfl 0 s h))
  have HBs := hide (fun (q : Nat) (s : Int) => (show Below w.heap.size w ((w2.drewN q).setCell ⟨g, 0, none⟩ (.int .i64 s)) from (below_drewN hb2 q).setCell (p := ⟨g, 0, none⟩) hg2 (.int .i64 s)))
  obtain ⟨pb1, pb2⟩ := Tm.pair_bd x (ps.getD 0 0)
  obtain ⟨pc1, pc2⟩ := Tm.pair_bd (ps.getD 0 0) x
  clear hown' hgrow ho2 hb2 hr2 hbl2 hc2 HC HP HD HF HE hg2
  generalize ps.getD 0 0 = y at *
  have l1 : 0 ≤ (x + 1) % 65521 := by omega
  have l2 : (x + 1) % 65521 < 65521 := by omega
  go_wp2_with fail
  refine (c69 _ _ _ (by omega) (by omega) (by omega) (by omega)).mono ?_
  rintro e w' ⟨o, rfl, rfl⟩
  cases o
  · go_wp2_with fail
    go_quiet ((go_at_call 67; exact Calls.quiet_of_same (c67 _ _ _)))
    have d1 : -9000000 ≤ Tm.pair y x - 31 - (x + 1) % 65521 * 127 := by omega
    have d2 : Tm.pair y x - 31 - (x + 1) % 65521 * 127 ≤ 9000000 := by omega
    generalize Tm.pair y x - 31 - (x + 1) % 65521 * 127 = d at *
    obtain ⟨b1, b2⟩ := tmod_bd d
    have q1 : 0 ≤ (d.tmod 65521 + 65521) % 65521 := by omega
    have q2 : (d.tmod 65521 + 65521) % 65521 < 65521 := by omega
    go_wp2_with fail
    refine (c70 _ _ (by omega) (by omega)).mono ?_
    rintro e w' ⟨z, rfl, ⟨z1, z2⟩, rfl⟩
    obtain ⟨m1, m2⟩ := mulmod ⟨q1, q2⟩ ⟨z1, z2⟩
    go_wp2_with fail
    go_ret2
    exact ⟨_, _, _, rfl, ⟨l1, l2⟩, unhide HS _ _ (fits_tmod _), by simp, unhide HBs _ _⟩
  · go_wp2_with fail
    go_quiet ((go_at_call 67; exact Calls.quiet_of_same (c67 _ _ _)))
    have d1 : -600000000 ≤ Tm.pair x y - 31 - (x + 1) % 65521 * 8191 := by omega
    have d2 : Tm.pair x y - 31 - (x + 1) % 65521 * 8191 ≤ 9000000 := by omega
    generalize Tm.pair x y - 31 - (x + 1) % 65521 * 8191 = d at *
    obtain ⟨b1, b2⟩ := tmod_bd d
    have q1 : 0 ≤ (d.tmod 65521 + 65521) % 65521 := by omega
    have q2 : (d.tmod 65521 + 65521) % 65521 < 65521 := by omega
    go_wp2_with fail
    refine (c70 _ _ (by omega) (by omega)).mono ?_
    rintro e w' ⟨z, rfl, ⟨z1, z2⟩, rfl⟩
    obtain ⟨m1, m2⟩ := mulmod ⟨q1, q2⟩ ⟨z1, z2⟩
    go_wp2_with fail
    go_ret2
    exact ⟨_, _, _, rfl, ⟨l1, l2⟩, unhide HS _ _ (fits_tmod _), by simp, unhide HBs _ _⟩
end Go.Proofs.Ytdbnimgbmjeplaa
