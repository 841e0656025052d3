/-
  The walks of the model's draws of how trees grow: DrawConProof, DrawConCheck.
-/
import Derived.Test.YtdbnimgbmjeplaaDrawe
import Derived.Test.YtdbnimgbmjeplaaConb
namespace Go.Proofs.Ytdbnimgbmjeplaa
open Go.RowKit
set_option linter.unusedVariables false

/-- what the draw for ConProof leaves -/
def Growing (w : World) (e : Ending) (w' : World) : Prop :=
  ∃ (v : Value) (ys : List Int) (i : Int), e = .returned (.tuple #[v, .int .i64 i]) ∧ Own w' w.heap.size v ys ∧ ys.length ≤ 41 ∧ (0 ≤ i ∧ i ≤ ys.length + 1) ∧ Below w.heap.size w w'

set_option maxHeartbeats 1000000 in
theorem c20 (zs : List Int) (ao : Option Addr) (n cap : Nat) (w : World) (hn : zs.length = n) (hc : n ≤ cap) (hm : cap ≤ maxLen) (hB : Bytes w ao zs) :
    Calls Try.prog 20 #[.slice ao n cap] w (Growing w) := by
  have HB := hide hB
  clear hB
  go_enter Try.func20, Try.ntmps20
  go_wp2_with fail
  refine (c31 zs ao n cap _ hn hc hm (unhide HB)).mono ?_
  rintro e w1 ⟨rfl, hr, hb, hl⟩
  have HR := hide hr
  have HBe := hide hb
  clear hr hb
  go_wp2_with fail
  refine (c42 _ 0 12 _ (by omega) (by omega) (unhide HR)).mono ?_
  rintro e w2 ⟨v, ys, rfl, ho, hy, hr, hg⟩
  obtain ⟨ao', cap', rfl, -, -, -⟩ := ho.row
  have HR2 := hide hr
  have HBf := hide (below_of_grown (unhide HBe) hg)
  have HO := hide ho
  clear hr hg ho
  go_wp2_with fail
  refine (c43 _ (0 + 300) _ _ (by omega) (unhide HR2)).mono ?_
  rintro e w3 ⟨q, rfl, hq, hq2, hr, hg⟩
  have hq3 := hq2 (by omega)
  have HO3 := hide (((unhide HO).keptR hg hl).mono (Nat.le_of_lt hl))
  have HBg := hide (below_of_grown (unhide HBf) hg)
  clear hr hg hq2
  go_wp2_with fail
  go_ret2
  exact ⟨_, ys, _, rfl, unhide HO3, hy, by omega, unhide HBg⟩

theorem conProof_len {zs : List Int} {m : Int} : (Tm.conProof zs m).length ≤ 7 := by
  unfold Tm.conProof
  split
  · rename_i h
    exact Tm.con_len7 true (treOk_len h.1).1 (by omega) (by omega)
  · simp

set_option maxHeartbeats 4000000 in
theorem c24 (zs : List Int) (ao : Option Addr) (n cap : Nat) (w : World) (hn : zs.length = n) (hc : n ≤ cap) (hm : cap ≤ maxLen) (hB : Bytes w ao zs) :
    Calls Try.prog 24 #[.slice ao n cap] w (Asked w) := by
  have HB := hide hB
  clear hB
  obtain ⟨i0, hi, hz0, hz1, hz2⟩ := info_parts Try.info3
  go_enter Try.func24, Try.ntmps24
  go_wp2_with fail
  refine (c31 zs ao n cap _ hn hc hm (unhide HB)).mono ?_
  rintro e w1 ⟨rfl, hr, hb, hrl⟩
  have HR := hide hr
  have HBe := hide hb
  clear hr hb hn hc hm HB
  go_wp2_with fail
  refine (c42 _ 0 99999 _ (by omega) (by omega) (unhide HR)).mono ?_
  rintro e w2 ⟨v, ys, rfl, ho, hl, hr, hg⟩
  have hws1 : w1.heap.size ≤ w2.heap.size := hg.size
  obtain ⟨bo, cap2, rfl, hcap, -, -⟩ := ho.row
  have HS2 := hide (show St w1 w2 w.heap.size (0 + 300) _ ys (.slice none 0 0) [] from ⟨hrl, ho, ⟨fun z hz => by simp at hz, ⟨rfl, Or.inl ⟨rfl, rfl⟩⟩⟩, hr, hg⟩)
  clear ho hr hg HR
  by_cases h0 : ys = []
  case' pos =>
    subst h0
    have HS3 : Hid (St w1 (w2.alloc (.cells #[.int .i64 4] 3)) w.heap.size (0 + 300) (.slice (some ⟨w2.heap.size, 0, none⟩) 1 1) [4] (.slice none 0 0) []) :=
      ⟨hrl, own_one w2 w1.heap.size hws1 (by decide), ⟨fun z hz => by simp at hz, ⟨rfl, Or.inl ⟨rfl, rfl⟩⟩⟩, (unhide HS2).2.2.2.1.alloc _, grown_trans (unhide HS2).2.2.2.2 (World.grownBy_alloc w2 _ _)⟩
    clear HS2
    go_wp2_with fail
    generalize w2.alloc (.cells #[.int .i64 4] 3) = w3 at *
    generalize w2.heap.size = gg at *
    have hLen : ([4] : List Int).length = 1 := rfl
    have hmax : ([4] : List Int).length ≤ 41 := by decide
    generalize ([4] : List Int) = ls at *
    have hpos : 0 < ls.length := by omega
    clear hcap hl
  case' neg =>
    have hlz : ((ys.length : Int) == 0) = false := by rw [beq_eq_false_iff_ne]; intro e; exact h0 (List.eq_nil_of_length_eq_zero (by omega))
    have hpos : 0 < ys.length := by cases ys; exact absurd rfl h0; simp
    go_wp2_with fail
    have HS3 := HS2
    clear HS2 hlz h0
    generalize ys = ls at *
    have hmax := hl
  all_goals
    refine (c43 w.heap.size (0 + 300) _ _ (by omega) (unhide HS3).2.2.2.1).mono ?_
    rintro e w4 ⟨q, rfl, hq, hq2, hr, hg⟩
    have hq3 := hq2 (by omega)
    obtain ⟨qN, rfl⟩ := Int.eq_ofNat_of_zero_le hq
    have HS4 := hide ((unhide HS3).step hg hr)
    clear hr hg hq2 HS3 hq
    go_wp2_with fail
    refine (c37 (ls.take (1 + qN)) _ _ _ _ (by rw [List.length_take]; omega) (by omega) (by omega) ((unhide HS4).2.1.rowOf.take _)).mono ?_
    rintro e w5 ⟨rfl, q5, rfl⟩
    have HS5 := hide ((unhide HS4).drewN q5)
    clear HS4
    generalize w4.drewN q5 = w5 at *
    generalize Tm.treRoot (ls.take (1 + qN)) = old at *
    go_wp2_with fail
    refine (c37 ls _ _ _ _ (by omega) (by omega) (by omega) (unhide HS5).2.1.rowOf).mono ?_
    rintro e w6 ⟨rfl, q6, rfl⟩
    have HS6 := hide ((unhide HS5).drewN q6)
    clear HS5
    generalize w5.drewN q6 = w6 at *
    generalize Tm.treRoot ls = root at *
    go_wp2_with fail
    refine (c22 ls _ _ _ _ _ (by omega) (by omega) (by omega) (unhide HS6).2.1.rowOf).mono ?_
    rintro e w7 ⟨pv, rfl, hpo, hb⟩
    have HS7 := hide ((unhide HS6).other hb hpo)
    obtain ⟨po, pcap, rfl, hpc, -, -⟩ := hpo.row
    clear hpo hb HS6
    have hl7 := conProof_len (zs := ls) (m := 1 + (qN : Int))
    generalize Tm.conProof ls (1 + (qN : Int)) = ps at *
    go_wp2_with fail
    refine (c43 w.heap.size (0 + 300 + 1) 7 _ (by omega) (unhide HS7).2.2.2.1).mono ?_
    rintro e w8 ⟨j, rfl, hj, hj2, hr, hg⟩
    have hj3 := hj2 (by omega)
    have HS8 := hide ((unhide HS7).step hg hr)
    clear hr hg hj2 HS7
    obtain rfl | rfl | rfl | rfl | hj4 : j = 0 ∨ j = 1 ∨ j = 2 ∨ j = 3 ∨ 4 ≤ j := by omega
    · go_wp2_with fail
      refine (c47 w.heap.size (0 + 300 + 1 + 1) 4 _ (by omega) (by omega) (unhide HS8).2.2.2.1).mono ?_
      rintro e w9 ⟨y, rfl, hy, hr, hg⟩
      have HS9 := hide ((unhide HS8).step hg hr)
      clear hr hg HS8 hy
      have HBf := hide (below_of_grown (unhide HBe) (unhide HS9).2.2.2.2)
      go_wp2_with fail
      try simp only [Exit.inBlock, Exit.then]
      refine bodyPost_ret (results_tmp5 rfl _ _ _) rfl ?_
      exact ⟨_, _, _, _, _, ps, rfl, (unhide HS9).2.2.1.mono (Nat.le_of_lt hrl), by first | omega | (simp; omega) | simp, unhide HBf⟩
    · go_wp2_with fail
      refine (c47 w.heap.size (0 + 300 + 1 + 1) 4 _ (by omega) (by omega) (unhide HS8).2.2.2.1).mono ?_
      rintro e w9 ⟨y, rfl, hy, hr, hg⟩
      have HS9 := hide ((unhide HS8).step hg hr)
      clear hr hg HS8 hy
      have HBf := hide (below_of_grown (unhide HBe) (unhide HS9).2.2.2.2)
      go_wp2_with fail
      try simp only [Exit.inBlock, Exit.then]
      refine bodyPost_ret (results_tmp5 rfl _ _ _) rfl ?_
      exact ⟨_, _, _, _, _, ps, rfl, (unhide HS9).2.2.1.mono (Nat.le_of_lt hrl), by first | omega | (simp; omega) | simp, unhide HBf⟩
    · by_cases hp0 : ps = []
      · subst hp0
        have HBf := hide (below_of_grown (unhide HBe) (unhide HS8).2.2.2.2)
        go_wp2_with fail
        try simp only [Exit.inBlock, Exit.then]
        refine bodyPost_ret (results_tmp5 rfl _ _ _) rfl ?_
        exact ⟨_, _, _, _, _, [], rfl, (unhide HS8).2.2.1.mono (Nat.le_of_lt hrl), by first | omega | (simp; omega) | simp, unhide HBf⟩
      · have hpl : 0 < ps.length := by cases ps; exact absurd rfl hp0; simp
        have hpd : (0 : Int) < (ps.length : Int) := by omega
        obtain ⟨b2, off2, rfl, hds⟩ := (unhide HS8).2.2.1.rowOf.2 hp0
        have HD := hide hds
        have HF := hide (unhide HS8).2.2.1.1
        have HE := hide (own_empty w8 w8.heap.size (Nat.le_refl _))
        clear hds
        go_wp2_with (first | (at_builtin; refine wpList_append_own _ rfl _ _ 23 rfl w8.heap.size 3 i0 (.int .i64 0) 1 8 Try.underlying23 hi hz0 hz1 hz2 rfl (by decide) _ _ _ rfl (unhide HE).2 ⟨b2, off2, none⟩ ps.length pcap (ps.map (Value.int .i64)) rfl (by simp) (src_cells (unhide HD)) (ints_oneCell _ _) ?c3 ?c4 ?c5 ?_) | fail)
        case c3 => simp [maxLen]; omega
        case c4 => simp; omega
        case c5 => simp
        intro v' w9 hown' hgrow _
        have ho5 : Own w9 w8.heap.size v' ps := ⟨unhide HF, by simpa using hown'⟩
        have hb5 : Below w8.heap.size w8 w9 := ((Below.refl _ _).alloc (Nat.le_refl _) _).grown hgrow (by simp) (fun q hq => by simp [Value.ownBlock] at hq; omega)
        have HS9 := hide ((unhide HS8).other hb5 ho5)
        obtain ⟨ao2, cap3, rfl, hcap2, hr2, hbl2⟩ := ho5.row
        obtain ⟨g, o2, rfl, hc2⟩ := hr2.2 hp0
        have hg2 := (hbl2 _ rfl).1
        simp only at hg2
        have ho0 : o2 = 0 := by
          rcases ho5.2.2 with ⟨hv, _⟩ | ⟨g', cap', cur, hv, r⟩
          · cases hv
          · simp only [Value.slice.injEq, Option.some.injEq, Addr.mk.injEq] at hv
            exact hv.1.2.1
        subst ho0
        clear hown' hgrow ho5 hb5 hr2 hbl2 hc2 HE HD HF HS8
        have hgw : w1.heap.size ≤ g := by have := own_block (unhide HS9).2.2.1 g rfl; omega
        go_wp2_with fail
        refine (c43 w.heap.size (0 + 300 + 1 + 1) _ _ (by omega) (unhide HS9).2.2.2.1).mono ?_
        rintro e w10 ⟨p, rfl, hp, hp2, hr, hg⟩
        have hp3 := hp2 (by omega)
        obtain ⟨pN, rfl⟩ := Int.eq_ofNat_of_zero_le hp
        have HS10 := hide ((unhide HS9).step hg hr)
        clear hr hg hp2 HS9
        go_wp2_with fail
        refine (c47 w.heap.size (0 + 300 + 1 + 1 + 1) 4 _ (by omega) (by omega) (unhide HS10).2.2.2.1).mono ?_
        rintro e w11 ⟨y, rfl, hy, hr, hg⟩
        have HS11 := hide ((unhide HS10).step hg hr)
        clear hr hg HS10
        have hq0 : ∃ u, w11.cell? ⟨g, pN, none⟩ = some (.int .i64 u) := by
          have := cells_of_own (unhide HS11).2.2.1.2 rfl pN (by omega)
          rw [Nat.zero_add] at this
          exact ⟨_, this⟩
        obtain ⟨u, hq0⟩ := hq0
        have hfr := (unhide HS11).2.2.1.2.frozenAt pN
        have HO12 := hide (own_set (unhide HS11).2.2.1 rfl pN y hy)
        have HB12 := hide (below_of_grown (unhide HBe) (grown_young (u := .int .i64 y) (p := pN) (unhide HS11).2.2.2.2 hgw))
        clear HS11 hy
        go_wp2_with fail
        try simp only [Exit.inBlock, Exit.then]
        refine bodyPost_ret (results_tmp5 rfl _ _ _) rfl ?_
        exact ⟨_, _, _, _, _, ps.set pN y, rfl, (unhide HO12).mono (Nat.le_of_lt hrl), by simp; omega, unhide HB12⟩
    · go_wp2_with fail
      refine (pick_lit w.heap.size (0 + 300 + 1 + 1) 3 _ _ (by omega) (by omega) (unhide HS8).2.2.2.1).mono ?_
      rintro e w9 ⟨x, rfl, hx, hx2, hr, hg, hl3⟩
      have HS9 := hide ((unhide HS8).step hg hr)
      have k0 := hl3 0 _ rfl
      have k1 := hl3 1 _ rfl
      have k2 := hl3 2 _ rfl
      clear hr hg hl3 HS8
      have HBf := hide (below_of_grown (unhide HBe) (unhide HS9).2.2.2.2)
      obtain rfl | rfl | rfl : x = 0 ∨ x = 1 ∨ x = 2 := by omega
      all_goals
        go_wp2_with fail
        try simp only [Exit.inBlock, Exit.then]
        refine bodyPost_ret (results_tmp5 rfl _ _ _) rfl ?_
        exact ⟨_, _, _, _, _, ps, rfl, (unhide HS9).2.2.1.mono (Nat.le_of_lt hrl), by omega, unhide HBf⟩
    · have f0 : (j == 0) = false := by rw [beq_eq_false_iff_ne]; omega
      have f1 : (j == 1) = false := by rw [beq_eq_false_iff_ne]; omega
      have f2 : (j == 2) = false := by rw [beq_eq_false_iff_ne]; omega
      have f3 : (j == 3) = false := by rw [beq_eq_false_iff_ne]; omega
      have HBf := hide (below_of_grown (unhide HBe) (unhide HS8).2.2.2.2)
      go_wp2_with fail
      try simp only [Exit.inBlock, Exit.then]
      refine bodyPost_ret (results_tmp5 rfl _ _ _) rfl ?_
      exact ⟨_, _, _, _, _, ps, rfl, (unhide HS8).2.2.1.mono (Nat.le_of_lt hrl), by first | omega | (simp; omega) | simp, unhide HBf⟩
end Go.Proofs.Ytdbnimgbmjeplaa
