/-
  The walks of the laws FnMixLeaf and FnTreOk: at every code they answer true, and nothing that was there is written.
-/
import Derived.Test.YtiockogogfoojaaDrawd
namespace Go.Proofs.Ytiockogogfoojaa
open Go.RowKit

theorem Row.nil (w : World) (ao : Option Addr) : Row w ao [] := ⟨fun z hz => by simp at hz, fun h => absurd rfl h⟩
theorem okAll_take (zs : List Int) (k : Nat) (h : k < zs.length) : Tm.okAll (zs.take (k + 1)) = (Tm.okAll (zs.take k) && Tm.okB (zs.getD k 0)) := by
  rw [Tm.take_snoc zs k h]; simp [Tm.okAll]

set_option maxHeartbeats 4000000 in
theorem law5 (zs : List Int) (ao : Option Addr) (n cap : Nat) (w : World) (hn : zs.length = n) (hc : n ≤ cap) (hm : cap ≤ maxLen) (hB : Bytes w ao zs) :
    Calls Try.prog 5 #[.slice ao n cap] w (Holds w) := by
  have HM := hide hm
  unfold maxLen at hm
  have HB := hide hB
  clear hB
  by_cases hbig : (1048576 : Int) < (n : Int)
  · go_enter Try.func5, Try.ntmps5
    go_wp2_with fail
    go_ret
    exact ⟨rfl, Below.refl _ _⟩
  go_enter Try.func5, Try.ntmps5
  go_wp2_with fail
  refine (c33 zs ao n cap _ hn hc (unhide HM) (unhide HB)).mono ?_
  rintro e w1 ⟨v, ys, rfl, ho, hy, hb⟩
  obtain ⟨ao1, cap1, rfl, -, hr, -⟩ := ho.row
  have HR := hide hr
  have HBe := hide hb
  clear ho hr hb HB HM hbig hm hc hn
  go_wp2_with fail
  go_loop [4, 5] (fun t i => ∃ k : Nat, k ≤ ys.length ∧ i = .int .i64 k ∧ t = .bool (decide (ys.length ≤ 40) && Tm.okAll (ys.take k))) (fun _ i => ys.length - (intOf i).toNat)
  case atStart => exact ⟨0, Nat.zero_le _, rfl, by simp [Tm.okAll]; try omega⟩
  case round =>
    obtain ⟨k, hk, rfl, rfl⟩ := hrel
    by_cases hlt : k < ys.length
    · obtain ⟨b, off, rfl, hcs⟩ := (unhide HR).2 (by intro e; subst e; simp at hlt)
      have hck := hcs k hlt
      have HT := hide (okAll_take ys k hlt)
      clear hcs
      generalize ys.getD k 0 = x at *
      rcases ho : (decide (ys.length ≤ 40) && Tm.okAll (ys.take k)) with _ | _
      · have Ho := hide ho
        clear ho
        go_wp2_with fail
        go_round
        case rel => exact ⟨k + 1, by omega, by go_num, by rw [unhide HT, ← Bool.and_assoc, unhide Ho]; rfl⟩
        case measure => simp [intOf]; omega
      · have Ho := hide ho
        clear ho
        go_wp2_with (go_at_call 27; refine (c27 _ _).mono ?_; rintro e w' ⟨rfl, rfl⟩)
        go_round
        case rel => exact ⟨k + 1, by omega, by go_num, by rw [unhide HT, ← Bool.and_assoc, unhide Ho]; rfl⟩
        case measure => simp [intOf]; omega
    · have hke : k = ys.length := by omega
      subst hke
      rw [List.take_length]
      have hE : Tm.treOk [] = true := rfl
      have e : (decide (ys.length ≤ 40) && Tm.okAll ys) = Tm.treOk ys := rfl
      rw [e]
      clear e
      go_wp2_with fail
      refine (c34 ys ao1 ys.length cap1 _ rfl (by omega) (unhide HR)).mono ?_
      rintro e w' ⟨rfl, rfl⟩
      go_wp2_with fail
      refine (c34 ys ao1 ys.length cap1 _ rfl (by omega) (unhide HR)).mono ?_
      rintro e w' ⟨rfl, rfl⟩
      go_wp2_with fail
      refine (c35 ys ao1 ys.length cap1 _ rfl (by omega) (unhide HR)).mono ?_
      rintro e w' ⟨rfl, rfl⟩
      go_wp2_with fail
      refine (c34 [] _ 0 _ _ rfl (by omega) (Row.nil _ _)).mono ?_
      rintro e w' ⟨rfl, rfl⟩
      have HBf := hide ((unhide HBe).alloc (unhide HBe).size (.cells #[] 3))
      go_wp2_with fail
      go_ret
      exact ⟨rfl, unhide HBf⟩

/-- the last number, one more or one less -/
def bent (x : Int) : Int := if 0 < x then x - 1 else x + 1
theorem leaf_bent (ys : List Int) (k : Nat) (h : ys.length = k + 1) : (Tm.leaf (ys.set k (bent (ys.getD k 0))) != Tm.leaf ys) = true := by
  have e1 : ys = ys.take k ++ [ys.getD k 0] := by
    rw [← Tm.take_snoc ys k (by omega), ← h, List.take_length]
  have e2 : ys.set k (bent (ys.getD k 0)) = ys.take k ++ [bent (ys.getD k 0)] := by
    rw [List.set_eq_take_append_cons_drop, if_pos (by omega), List.drop_of_length_le (by omega)]
  have e3 : Tm.leaf ys = Tm.leaf (ys.take k ++ [ys.getD k 0]) := congrArg Tm.leaf e1
  rw [bne_iff_ne, e2, e3]
  exact Tm.leaf_last (ys.take k) (ys.getD k 0) (bent (ys.getD k 0)) (by unfold bent; split <;> omega)

set_option maxHeartbeats 800000 in
theorem law4 (zs : List Int) (ao : Option Addr) (n cap : Nat) (w : World) (hn : zs.length = n) (hc : n ≤ cap) (hm : cap ≤ maxLen) (hB : Bytes w ao zs) :
    Calls Try.prog 4 #[.slice ao n cap] w (Holds w) := by
  have HM := hide hm
  unfold maxLen at hm
  have HB := hide hB
  clear hB
  obtain ⟨i0, hi, hz0, hz1, hz2⟩ := info_parts Try.info3
  by_cases hbig : (1048576 : Int) < (n : Int)
  · go_enter Try.func4, Try.ntmps4
    go_wp2_with fail
    go_ret
    exact ⟨rfl, Below.refl _ _⟩
  go_enter Try.func4, Try.ntmps4
  go_wp2_with fail
  refine (c30 zs ao n cap _ hn hc (unhide HM) (unhide HB)).mono ?_
  rintro e w1 ⟨v, ys, rfl, ho, hy, hb⟩
  obtain ⟨ao1, cap1, rfl, -, hr, hbl⟩ := ho.row
  have HR := hide hr
  have HBe := hide hb
  have hok : Tm.okB (Tm.leaf ys) = true := Tm.leaf_ok ys
  clear ho hb HB HM hbig hm hc hn
  by_cases h0 : ys = []
  · subst h0
    have h217 : (Tm.leaf [] == 217) = true := by decide
    clear hr
    go_wp2_with (first | (go_at_call 31; refine (c31 [] ao1 0 cap1 _ rfl (by omega) (unhide HR)).mono ?_; rintro e w' ⟨rfl, rfl⟩) | (go_at_call 32; refine (c32 [] ao1 0 cap1 _ rfl (by omega) (unhide HR)).mono ?_; rintro e w' ⟨rfl, rfl⟩) | (go_at_call 27; refine (c27 _ _).mono ?_; rintro e w' ⟨rfl, rfl⟩) | (go_at_call 29; refine (c29 _).mono ?_; rintro e w' ⟨rfl, rfl⟩))
    go_ret
    exact ⟨rfl, unhide HBe⟩
  · obtain ⟨b, off, rfl, hcs⟩ := hr.2 h0
    obtain ⟨k, hk⟩ : ∃ k, ys.length = k + 1 := ⟨ys.length - 1, by cases ys; exact absurd rfl h0; simp⟩
    have hlz : ((ys.length : Int) == 0) = false := by rw [beq_eq_false_iff_ne]; omega
    have HF := hide hr.1
    have HK := hide hk
    have HC := hide hcs
    have HE := hide (own_empty w1 w1.heap.size (Nat.le_refl _))
    have HL := hide (leaf_bent ys k hk)
    clear hr hcs h0 hk
    go_wp2_with fail
    refine (c31 ys _ ys.length cap1 _ rfl (by omega) (unhide HR)).mono ?_
    rintro e w' ⟨rfl, rfl⟩
    go_wp2_with fail
    refine (c32 ys _ ys.length cap1 _ rfl (by omega) (unhide HR)).mono ?_
    rintro e w' ⟨rfl, rfl⟩
    go_wp2_with fail
    refine (c27 _ _).mono ?_
    rintro e w' ⟨rfl, rfl⟩
    go_wp2_with (first | (at_builtin; refine wpList_append_own _ rfl _ _ 30 rfl w'.heap.size 3 i0 (.int .i64 0) 1 8 Try.underlying30 hi hz0 hz1 hz2 rfl (by decide) _ _ _ rfl (unhide HE).2 ⟨b, off, none⟩ ys.length cap1 (ys.map (Value.int .i64)) rfl (by simp) ?c1 (ints_oneCell _ _) ?c3 ?c4 ?c5 ?_) | fail)
    case c1 =>
      intro j u hj
      rw [List.getElem?_map] at hj
      have hjl : j < ys.length := by
        rcases Nat.lt_or_ge j ys.length with h | h
        · exact h
        · rw [List.getElem?_eq_none h] at hj; cases hj
      have h1 := unhide HC j hjl
      rw [List.getElem?_eq_getElem hjl] at hj
      cases hj
      have e : (Addr.add ⟨b, off, none⟩ j) = ⟨b, off + j, none⟩ := by unfold Addr.add; split <;> simp_all
      rw [e, World.cell?_alloc_lt _ _ _ (World.block_lt_of_cell? w' _ h1), h1, Tm.getD_eq hjl]
    case c3 => simp [maxLen]; omega
    case c4 => simp; omega
    case c5 => simp
    intro v' w2 hown' hgrow _
    have ho2 : Own w2 w'.heap.size v' ys := ⟨unhide HF, by simpa using hown'⟩
    have hb2 : Below w.heap.size w w2 := ((unhide HBe).alloc (unhide HBe).size _).grown hgrow (by have := (unhide HBe).size; simp; omega) (fun q hq => by simp [Value.ownBlock] at hq; have := (unhide HBe).size; omega)
    obtain ⟨ao2, cap2, rfl, hcap2, hr2, hbl2⟩ := ho2.row
    obtain ⟨g, o2, rfl, hc2⟩ := hr2.2 (by intro e; have := unhide HK; subst e; simp at this)
    have hg2 := (hbl2 _ rfl).1
    simp only at hg2
    have how := ho2.2
    have ho0 : o2 = 0 := by
      rcases how.2 with ⟨hv, _⟩ | ⟨g', cap', cur, hv, r⟩
      · cases hv
      · simp only [Value.slice.injEq, Option.some.injEq, Addr.mk.injEq] at hv
        exact hv.1.2.1
    subst ho0
    have hk := unhide HK
    have hcell : w2.cell? ⟨g, k, none⟩ = some (.int .i64 (ys.getD k 0)) := by
      have := hc2 k (by omega)
      rwa [Nat.zero_add] at this
    have hfr := how.frozenAt k
    have hst := (how.stored k (.int .i64 (bent (ys.getD k 0)))).1
    have hx := unhide HF (ys.getD k 0) (by rw [Tm.getD_eq (by omega)]; exact List.getElem_mem _)
    have hbx : -9223372036854775808 ≤ bent (ys.getD k 0) ∧ bent (ys.getD k 0) ≤ 9223372036854775807 := by unfold bent; split <;> omega
    have hr3 : Row (w2.setCell ⟨g, k, none⟩ (.int .i64 (bent (ys.getD k 0)))) (some ⟨g, 0, none⟩) (ys.set k (bent (ys.getD k 0))) := by
      refine ⟨fun z hz => ?_, fun _ => ⟨g, 0, rfl, ?_⟩⟩
      · rcases List.mem_or_eq_of_mem_set hz with h | h
        · exact unhide HF z h
        · subst h; exact hbx
      · have e : (ys.map (Value.int .i64)).set k (.int .i64 (bent (ys.getD k 0))) = (ys.set k (bent (ys.getD k 0))).map (Value.int .i64) := by rw [List.map_set]
        rw [e] at hst
        intro j hj
        exact cells_of_own hst (by simp) j (by simpa using hj)
    have HR3 := hide hr3
    have HB3 := hide (hb2.setCell (p := ⟨g, k, none⟩) (by have := (unhide HBe).size; simp only; omega) (.int .i64 (bent (ys.getD k 0))))
    have hlen : (ys.set k (bent (ys.getD k 0))).length = k + 1 := by simp [hk]
    have HLen := hide hlen
    clear hown' hgrow ho2 hb2 hr2 hbl2 hc2 how hst hr3 hbl hlen HR HC HE HBe HF hok hlz hbx
    generalize hxx : ys.getD k 0 = x at *
    have hbe : bent x = (if 0 < x then x - 1 else x + 1) := rfl
    clear hxx
    by_cases hpos : 0 < x
    · rw [if_pos hpos] at hbe
      rw [hbe] at HL HR3 HB3 HLen
      clear hbe
      generalize hys : ys.set k (x - 1) = ts at *
      clear hys
      go_wp2_with fail
      refine (c31 ts _ (k + 1) cap2 _ (unhide HLen) (by omega) (unhide HR3)).mono ?_
      rintro e w' ⟨rfl, rfl⟩
      have hfin := unhide HL
      go_wp2_with fail
      go_ret
      exact ⟨rfl, unhide HB3⟩
    · rw [if_neg hpos] at hbe
      rw [hbe] at HL HR3 HB3 HLen
      clear hbe
      generalize hys : ys.set k (x + 1) = ts at *
      clear hys
      go_wp2_with fail
      refine (c31 ts _ (k + 1) cap2 _ (unhide HLen) (by omega) (unhide HR3)).mono ?_
      rintro e w' ⟨rfl, rfl⟩
      have hfin := unhide HL
      go_wp2_with fail
      go_ret
      exact ⟨rfl, unhide HB3⟩
end Go.Proofs.Ytiockogogfoojaa
