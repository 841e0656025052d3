/-
  Texts of the proof, what it needs of them: Growd, Owl.
-/
import Derived.Test.YtmlbphmbffkdnaaGreatGh07
import Derived.Test.YtmlbphmbffkdnaaGreatGh08
import Derived.Test.YtmlbphmbffkdnaaGreatGh14
import Derived.Test.YtmlbphmbffkdnaaGreatGh20
namespace Go.Proofs.YtmlbphmbffkdnaaGreat
open Go.RowKit
set_option linter.unusedVariables false

theorem news_one {w : World} {g : Nat} {x : Int} (h : w.cell? ⟨g, 0, none⟩ = some (.int .i64 x)) : ∀ j u, [Value.int .i64 x][j]? = some u → w.cell? ((⟨g, 0, none⟩ : Addr).add j) = some u := by
  intro j u hu
  cases j with
  | zero =>
    simp at hu
    subst hu
    have e : (⟨g, 0, none⟩ : Addr).add 0 = ⟨g, 0, none⟩ := by unfold Addr.add; split <;> simp_all
    rw [e]; exact h
  | succ j => simp at hu
end Go.Proofs.YtmlbphmbffkdnaaGreat
namespace Go.Proofs.YtmlbphmbffkdnaaGreat
open Go.RowKit
set_option linter.unusedVariables false
set_option maxRecDepth 100000

theorem fold_bad {es : List Tm.Ent} {k : Nat} {e : Tm.Ent} {rs : List Tm.Rw} (hk : es[k]? = some e) (h : Tm.foldE (es.take k) Tm.none8 = some rs) (hf : Tm.fits rs e = false) : Tm.foldE es Tm.none8 = none := by
  cases hx : Tm.foldE es Tm.none8 with
  | none => rfl
  | some r =>
    obtain ⟨x, hx2⟩ := Tm.foldE_take es (k + 1) _ _ hx
    have hl := lt_of_get hk
    rw [List.getElem?_eq_getElem hl] at hk
    cases hk
    rw [List.take_succ_eq_append_getElem hl, Tm.foldE_snoc, h] at hx2
    simp only [Option.bind_some] at hx2
    rw [if_neg (by rw [hf]; simp)] at hx2
    cases hx2
theorem fold_next {es : List Tm.Ent} {k : Nat} {e : Tm.Ent} {rs : List Tm.Rw} (hk : es[k]? = some e) (h : Tm.foldE (es.take k) Tm.none8 = some rs) (hf : Tm.fits rs e = true) : Tm.foldE (es.take (k + 1)) Tm.none8 = some (Tm.put rs e) := by
  have hl := lt_of_get hk
  rw [List.getElem?_eq_getElem hl] at hk
  cases hk
  rw [List.take_succ_eq_append_getElem hl, Tm.foldE_snoc, h]
  simp only [Option.bind_some]
  rw [if_pos hf]
theorem ownFold_long {es : List Tm.Ent} (h : ¬ es.length ≤ 40) : Tm.ownFold es = none := by unfold Tm.ownFold; rw [if_neg h]
theorem ownFold_of {es : List Tm.Ent} (h : es.length ≤ 40) : Tm.ownFold es = Tm.foldE es Tm.none8 := by unfold Tm.ownFold; rw [if_pos h]
theorem ownFold_ok {es : List Tm.Ent} {rs : List Tm.Rw} (h : Tm.ownFold es = some rs) : Tm.ownOk rs = true := by
  unfold Tm.ownFold at h
  split at h
  · exact Tm.foldE_ok es _ _ Tm.none8_ok h
  · cases h
/-- what is told of how entries lead -/
def foldRows (es : List Tm.Ent) : List Tm.Rw := (Tm.ownFold es).getD []
def foldIs (es : List Tm.Ent) : Bool := (Tm.ownFold es).isSome
theorem foldRows_len (es : List Tm.Ent) : (foldRows es).length ≤ 8 := by
  unfold foldRows
  cases h : Tm.ownFold es with
  | none => simp
  | some rs => simp [(Tm.ownOk_iff.1 (ownFold_ok h)).1]
theorem fold_none {es : List Tm.Ent} (h : Tm.ownFold es = none) : foldRows es = [] ∧ foldIs es = false := by unfold foldRows foldIs; rw [h]; exact ⟨rfl, rfl⟩
theorem fold_some {es : List Tm.Ent} {rs : List Tm.Rw} (h : Tm.ownFold es = some rs) : foldRows es = rs ∧ foldIs es = true := by unfold foldRows foldIs; rw [h]; exact ⟨rfl, rfl⟩
theorem rown_nil (w : World) (base : Nat) (h : base ≤ w.heap.size) : ROwn w base (.slice none 0 0) [] := ⟨fun r hr => by simp at hr, 29, owns_nil _ _ _ _ h⟩
theorem e_at4 {es : List Tm.Ent} {k : Nat} (h : k < es.length) : ∃ a b c d, es[k]? = some (a, b, c, d) := ⟨es[k].1, es[k].2.1, es[k].2.2.1, es[k].2.2.2, List.getElem?_eq_getElem h⟩

set_option maxHeartbeats 4000000 in
theorem c17 (es : List Tm.Ent) (ao : Option Addr) (n cap : Nat) (w : World) (hn : es.length = n) (hm : n ≤ 1048576) (hr : ERow w ao es) :
    Calls Tryz.prog 17 #[.slice ao n cap] w (RTold2 w (foldRows es) (foldIs es)) := by
  subst hn
  obtain ⟨hfit, hr⟩ := hr
  have HR := hide hr
  clear hr hfit
  by_cases h40 : es.length ≤ 40
  case neg =>
    obtain ⟨f1, f2⟩ := fold_none (ownFold_long h40)
    have H1 := hide f1
    have H2 := hide f2
    have hbg : (40 : Int) < (es.length : Int) := by omega
    clear f1 f2 h40
    go_enter Tryz.func17, Tryz.ntmps17
    go_wp2_with fail
    go_ret2
    exact ⟨_, ret_lb2 (unhide H2).symm, by rw [unhide H1]; exact rown_nil _ _ (Nat.le_refl _), Below.refl _ _⟩
  have hbg : ¬ (40 : Int) < (es.length : Int) := by omega
  have HF := hide (ownFold_of h40)
  have hA0 : Arr (w.alloc (.cells (Tm.none8.flatMap rCells).toArray 78)) w.heap.size Tm.none8 := arr_new w _
  have HA0 := hide hA0
  clear h40 hA0
  go_enter Tryz.func17, Tryz.ntmps17
  go_wp2_with fail
  go_loopw [12] (fun i wr => ∃ k : Nat, k ≤ es.length ∧ i = .int .i64 k ∧ ∃ rs, Tm.foldE (es.take k) Tm.none8 = some rs ∧ Tm.ownOk rs = true ∧ Arr wr w.heap.size rs ∧ Below w.heap.size w wr) (fun i _ => es.length - (intOf i).toNat)
  case atStart => exact ⟨0, Nat.zero_le _, rfl, Tm.none8, rfl, Tm.none8_ok, unhide HA0, below_a _⟩
  case round =>
    obtain ⟨k, hk, rfl, rs, hfo, hok, hA, hbel⟩ := hrel
    clear HA0
    have HL := hide (Tm.ownOk_iff.1 hok).1
    have HOK := hide hok
    have HA := hide hA
    have HBE := hide hbel
    have HFO := hide hfo
    clear hok hA hfo
    by_cases hlt : k < es.length
    · obtain ⟨b, off, rfl, hc⟩ := unhide HR (by intro e; subst e; simp at hlt)
      obtain ⟨x0, x1, x2, x3, hx⟩ := e_at4 hlt
      obtain ⟨g0, g1, g2, g3⟩ := e_cells hbel hc hx
      have HX := hide hx
      have hE := box_new wr [.int .i64 x0, .int .i64 x1, .int .i64 x2, .int .i64 x3] 80 (by simp [Value.oneCell'])
      have HE := hide hE
      have HA1 := hide ((unhide HA).alloc (.cells #[.int .i64 x0, .int .i64 x1, .int .i64 x2, .int .i64 x3] 80))
      have HB1 := hide (below_al (o := .cells #[.int .i64 x0, .int .i64 x1, .int .i64 x2, .int .i64 x3] 80) (unhide HBE))
      clear hbel hc hx hE HBE
      go_wp2_with (first | (refine wpList_load_run rfl _ 78 rfl _ rfl ((unhide HA1).load (unhide HL)) ?_))
      refine (c56 rs x0 x1 x2 x3 _ (unhide HOK)).mono ?_
      rintro e w2 ⟨rfl, hb2⟩
      have HB2 := hide (below_tr (unhide HB1) hb2)
      have HA2 := hide ((unhide HA1).bel hb2)
      have hE2 := (unhide HE).below hb2
      have y0 := hE2.cell 0 rfl
      have y1 := hE2.cell 1 rfl
      have y2 := hE2.cell 2 rfl
      have y3 := hE2.cell 3 rfl
      clear hb2 hE2 HE HA1 HB1
      rcases hf : Tm.fits rs (x0, x1, x2, x3) with _ | _
      · obtain ⟨f1, f2⟩ := fold_none ((unhide HF).trans (fold_bad (unhide HX) (unhide HFO) hf))
        have H1 := hide f1
        have H2 := hide f2
        clear f1 f2 hf
        go_wp2_with fail
        go_ret2
        exact ⟨_, ret_lb2 (unhide H2).symm, by rw [unhide H1]; exact rown_nil _ _ (unhide HB2).size, unhide HB2⟩
      · have HFN := hide (fold_next (unhide HX) (unhide HFO) hf)
        have HOK2 := hide (Tm.put_ok hf)
        have HEP := hide (Tm.fits_iff.1 hf).2.1
        have HL2 := hide (Tm.ownOk_iff.1 (unhide HOK2)).1
        clear hf
        go_wp2_with (first | (refine wpList_load_run rfl _ 78 rfl _ rfl ((unhide HA2).load (unhide HL)) ?_))
        refine (c57 rs x0 x1 x2 x3 _ (unhide HL) (unhide HEP)).mono ?_
        rintro e w3 ⟨rfl, hb3⟩
        have HB3 := hide (below_tr (unhide HB2) hb3)
        have HA3 := hide ((unhide HA2).bel hb3)
        clear hb3 y0 y1 y2 y3 HA2 HB2
        generalize Tm.put rs (x0, x1, x2, x3) = rs2 at *
        have HA4 := hide ((unhide HA3).set rs2)
        have HB4 := hide (below_row (unhide HB3) (Nat.le_refl _) (rs2.flatMap rCells).toArray)
        go_wp2_with (first | (refine wpList_store_run rfl _ _ 78 rfl _ _ rfl rfl ((unhide HA3).store (unhide HL) (unhide HL2)) ?_))
        go_roundw
        case rel => exact ⟨k + 1, by omega, by go_num, rs2, unhide HFN, unhide HOK2, unhide HA4, unhide HB4⟩
        case measure => simp [intOf]; omega
    · have hke : k = es.length := by omega
      subst hke
      have hfo := unhide HFO
      rw [List.take_length] at hfo
      obtain ⟨f1, f2⟩ := fold_some ((unhide HF).trans hfo)
      have H1 := hide f1
      have H2 := hide f2
      clear f1 f2 hfo hbel
      go_wp2_with (first | (refine wpList_load_run rfl _ 78 rfl _ rfl ((unhide HA).load (unhide HL)) ?_))
      refine (c58 rs _ (unhide HL) (ownOk_fit (unhide HOK))).mono ?_
      rintro e w4 ⟨v, rfl, ho4, hb4⟩
      have HO4 := hide (ho4.mono (unhide HBE).size)
      have HB5 := hide (below_tr (unhide HBE) hb4)
      clear ho4 hb4
      go_wp2_with fail
      go_ret2
      exact ⟨_, ret_lb2 (unhide H2).symm, by rw [unhide H1]; exact unhide HO4, unhide HB5⟩

set_option maxHeartbeats 1000000 in
theorem c29 (w : World) : Calls Tryz.prog 29 #[] w (RTold w Tm.none8) := by
  obtain ⟨i0, hi, hz0, hz1, hz2⟩ := info_parts Tryz.infoR
  go_enter Tryz.func29, Tryz.ntmps29
  go_wp2_with (first | (at_make; refine wpList_make_full _ rfl _ _ 44 rfl w.heap.size 29 i0 _ 3 Tryz.underlying44 hi hz0 hz1 _ _ _ _ 8 rfl rfl rfl rfl (by rw [hz2]; omega) (by unfold maxLen; omega) (Nat.le_refl _) ?_; intro w1 hown hgrow) | fail)
  have HB := hide ((Below.refl w.heap.size w).grown hgrow (Nat.le_refl _) (fun k hk => by cases hk))
  have HO : Hid (w1.ownsRow w.heap.size 29 3 (.slice (some ⟨w.heap.size, 0, none⟩) 8 8) 8 (Tm.none8.flatMap rCells)) := by
    unfold Hid
    show World.ownsRow w1 w.heap.size _ 3 _ 8 ((List.replicate 8 Tm.noRow).flatMap rCells)
    rw [← made_flat rCells 3 Tm.noRow _ rfl rfl (by decide)]
    exact hown
  clear hown hgrow
  go_wp2_with fail
  go_ret
  exact ⟨_, rfl, ⟨ownOk_fit Tm.none8_ok, _, unhide HO⟩, unhide HB⟩

set_option maxHeartbeats 4000000 in
theorem c28 (es : List Tm.Ent) (ao : Option Addr) (n cap : Nat) (w : World) (hn : es.length = n) (hm : n ≤ 1048576) (hr : ERow w ao es) :
    Calls Tryz.prog 28 #[.slice ao n cap] w (RTold2 w (foldRows es) (foldIs es)) := by
  subst hn
  obtain ⟨hfit, hr⟩ := hr
  have HR := hide hr
  clear hr hfit
  go_enter Tryz.func28, Tryz.ntmps28
  go_wp2_with fail
  refine (c29 _).mono ?_
  rintro e w1 ⟨v0, rfl, ho1, hb1⟩
  have HO1 := hide ho1
  have HB1 := hide hb1
  clear ho1 hb1
  by_cases h40 : es.length ≤ 40
  case neg =>
    obtain ⟨f1, f2⟩ := fold_none (ownFold_long h40)
    have H1 := hide f1
    have H2 := hide f2
    have hbg : (40 : Int) < (es.length : Int) := by omega
    clear f1 f2 h40
    go_wp2_with fail
    go_ret2
    exact ⟨_, ret_lb2 (unhide H2).symm, by rw [unhide H1]; exact ⟨fun r hr => by simp at hr, _, World.ownsRow_lit w1 #[] 0 (unhide HB1).size (by unfold maxLen; omega) rfl⟩, below_al (unhide HB1)⟩
  have hbg : ¬ (40 : Int) < (es.length : Int) := by omega
  have HF := hide (ownFold_of h40)
  clear h40
  go_wp2_with fail
  go_loopw [4, 5] (fun v i wr => ∃ k : Nat, k ≤ es.length ∧ i = .int .i64 k ∧ ∃ rs, Tm.foldE (es.take k) Tm.none8 = some rs ∧ Tm.ownOk rs = true ∧ ROwn wr w.heap.size v rs ∧ Below w.heap.size w wr) (fun _ i _ => es.length - (intOf i).toNat)
  case atStart => exact ⟨0, Nat.zero_le _, rfl, Tm.none8, rfl, Tm.none8_ok, unhide HO1, unhide HB1⟩
  case round =>
    obtain ⟨k, hk, rfl, rs, hfo, hok, hA, hbel⟩ := hrel
    clear HO1 HB1
    have HL := hide (Tm.ownOk_iff.1 hok).1
    have HOK := hide hok
    have HA := hide hA
    have HBE := hide hbel
    have HFO := hide hfo
    clear hok hfo
    by_cases hlt : k < es.length
    · obtain ⟨b, off, rfl, hc⟩ := unhide HR (by intro e; subst e; simp at hlt)
      obtain ⟨x0, x1, x2, x3, hx⟩ := e_at4 hlt
      obtain ⟨g0, g1, g2, g3⟩ := e_cells hbel hc hx
      have HX := hide hx
      obtain ⟨ao1, cap1, rfl, hcap1, hr1, -⟩ := hA.row
      have HR1 := hide hr1
      have hao : ao1 = none → cap1 = 0 := by
        intro e
        subst e
        have := rrow_none hr1
        have h8 := unhide HL
        subst this
        simp at h8
      have HAO := hide hao
      have hlen1 := unhide HL
      clear hbel hc hx hA hr1 hao
      rw [hlen1]
      clear hlen1
      go_wp2_with fail
      refine (c68 rs x0 x1 x2 x3 ao1 8 cap1 _ (unhide HL) (by omega) (unhide HAO) (unhide HR1)).mono ?_
      rintro e w2 ⟨v2, rfl, ho2, hb2⟩
      have HB2 := hide (below_tr (unhide HBE) hb2)
      have HO2 := hide (ho2.mono (unhide HBE).size)
      clear hb2 ho2 HR1
      rcases hf : Tm.fits rs (x0, x1, x2, x3) with _ | _
      · obtain ⟨f1, f2⟩ := fold_none ((unhide HF).trans (fold_bad (unhide HX) (unhide HFO) hf))
        have H1 := hide f1
        have H2 := hide f2
        clear f1 f2 hf
        go_wp2_with fail
        go_ret2
        exact ⟨_, ret_lb2 (unhide H2).symm, by rw [unhide H1]; exact ⟨fun r hr => by simp at hr, _, World.ownsRow_lit w2 #[] 0 (unhide HB2).size (by unfold maxLen; omega) rfl⟩, below_al (unhide HB2)⟩
      · have HFN := hide (fold_next (unhide HX) (unhide HFO) hf)
        have HOK2 := hide (Tm.put_ok hf)
        have ho2 := unhide HO2
        rw [ownPut_of hf] at ho2
        have HO3 := hide ho2
        clear hf ho2 HO2
        generalize Tm.put rs (x0, x1, x2, x3) = rs2 at *
        go_wp2_with fail
        go_roundw
        case rel => exact ⟨k + 1, by omega, by go_num, rs2, unhide HFN, unhide HOK2, unhide HO3, unhide HB2⟩
        case measure => simp [intOf]; omega
    · have hke : k = es.length := by omega
      subst hke
      have hfo := unhide HFO
      rw [List.take_length] at hfo
      obtain ⟨f1, f2⟩ := fold_some ((unhide HF).trans hfo)
      have H1 := hide f1
      have H2 := hide f2
      clear f1 f2 hfo hbel hA
      go_wp2_with fail
      go_ret2
      exact ⟨_, ret_lb2 (unhide H2).symm, by rw [unhide H1]; exact unhide HA, unhide HBE⟩
end Go.Proofs.YtmlbphmbffkdnaaGreat
