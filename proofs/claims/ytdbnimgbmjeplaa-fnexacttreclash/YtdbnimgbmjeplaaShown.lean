/-
  The walk of the model's draw of a proof that is shown: l20Shown.
-/
import Derived.Test.YtdbnimgbmjeplaaForge
import Derived.Laws.AppendOwnNone
namespace Go.Proofs.Ytdbnimgbmjeplaa
open Go.RowKit
set_option linter.unusedVariables false

theorem grown_of_belowR {w w' : World} {row : Option Nat} (h : Below w.heap.size w w') : w.grownBy w' row := ⟨h.os, h.tape, h.output, h.size, fun k hk _ => h.block k hk⟩
theorem grown_young {w0 W : World} {r g p : Nat} {u : Value} (h : w0.grownBy W (some r)) (hg : w0.heap.size ≤ g) : w0.grownBy (W.setCell ⟨g, p, none⟩ u) (some r) :=
  ⟨h.os, h.tape, h.output, by have := h.size; simpa [World.setCell] using this, fun kk hk hr => ((grown_set W g p u).block kk (by have := h.size; omega) (by simp; omega)).trans (h.block kk hk hr)⟩
theorem results_tmp4 {fn : Func} {t u v x : Tmp} (h : fn.results = #[.tmp t, .tmp u, .tmp v, .tmp x]) (tmps : Array Value) (P : Program) (w : World) :
    (results fn tmps).run P w = .ok (.tuple #[tmps.getD t undef, tmps.getD u undef, tmps.getD v undef, tmps.getD x undef]) w := by
  simp [results, h]
theorem results_tmp5 {fn : Func} {t u v x y : Tmp} (h : fn.results = #[.tmp t, .tmp u, .tmp v, .tmp x, .tmp y]) (tmps : Array Value) (P : Program) (w : World) :
    (results fn tmps).run P w = .ok (.tuple #[tmps.getD t undef, tmps.getD u undef, tmps.getD v undef, tmps.getD x undef, tmps.getD y undef]) w := by
  simp [results, h]
theorem grown_refl (w : World) (row : Option Nat) : w.grownBy w row := ⟨rfl, rfl, rfl, Nat.le_refl _, fun _ _ _ => rfl⟩
theorem Own.rowOf {w : World} {base n cap : Nat} {ao : Option Addr} {zs : List Int} (h : Own w base (.slice ao n cap) zs) : Row w ao zs := by
  obtain ⟨ao', cap', e, -, hr, -⟩ := h.row
  cases e
  exact hr

/-- Where a draw of a list and of a proof stands: both are the draw's own, the reader is so far on, and nothing older is written. -/
def St (w0 W : World) (r k : Nat) (v : Value) (zs : List Int) (pv : Value) (ps : List Int) : Prop :=
  r < w0.heap.size ∧ Own W w0.heap.size v zs ∧ Own W w0.heap.size pv ps ∧ Rd W r k ∧ w0.grownBy W (some r)
theorem St.step {w0 W W' : World} {r k k' : Nat} {v pv : Value} {zs ps : List Int} (h : St w0 W r k v zs pv ps) (hg : W.grownBy W' (some r)) (hr : Rd W' r k') : St w0 W' r k' v zs pv ps :=
  ⟨h.1, h.2.1.keptR hg h.1, h.2.2.1.keptR hg h.1, hr, grown_trans h.2.2.2.2 hg⟩
theorem St.mono {w0 W : World} {r k k' : Nat} {v pv : Value} {zs ps : List Int} (h : St w0 W r k v zs pv ps) (hk : k ≤ k') : St w0 W r k' v zs pv ps :=
  ⟨h.1, h.2.1, h.2.2.1, h.2.2.2.1.mono hk, h.2.2.2.2⟩
/-- another proof in the place of the one that was there -/
theorem St.other {w0 W W' : World} {r k : Nat} {v pv pv' : Value} {zs ps ps' : List Int} (h : St w0 W r k v zs pv ps) (hb : Below W.heap.size W W') (ho : Own W' W.heap.size pv' ps') : St w0 W' r k v zs pv' ps' :=
  ⟨h.1, h.2.1.keptR (grown_of_belowR hb) h.1, ho.mono h.2.2.2.2.size, h.2.2.2.1.kept (row := none) (grown_of_below hb) (fun b e => by cases e), grown_trans h.2.2.2.2 (grown_of_belowR hb)⟩
theorem St.size {w0 W : World} {r k : Nat} {v pv : Value} {zs ps : List Int} (h : St w0 W r k v zs pv ps) : w0.heap.size ≤ W.heap.size := h.2.2.2.2.size

/-- one more number behind the proof -/
theorem St.snoc {w0 W W' : World} {r k B b : Nat} {v pv pv' : Value} {zs ps : List Int} {x : Int} {o : Obj} (h : St w0 W r k v zs pv ps) (hb : v.ownBlock = some b) (hB : b < B) (hp : Own W B pv ps) (hx : -9223372036854775808 ≤ x ∧ x ≤ 9223372036854775807)
    (hown : W'.ownsRow w0.heap.size 3 1 pv' (ps.length + 1) (ps.map (Value.int .i64) ++ [.int .i64 x])) (hg : (W.alloc o).grownBy W' pv.ownBlock) : St w0 W' r k v zs pv' (ps ++ [x]) := by
  refine ⟨h.1, ⟨h.2.1.1, (h.2.1.2.alloc o).kept hg (Or.inr ?_)⟩, own_snoc h.2.2.1.1 hx hown, h.2.2.2.1.own h.2.2.1 h.1 hg, grown_own h.2.2.1 h.2.2.2.2 (Nat.le_refl _) hg⟩
  rw [hb]
  intro e
  have := own_block hp b e.symm
  omega

def Shown (w : World) (r k : Nat) (e : Ending) (w' : World) : Prop :=
  ∃ (v pv : Value) (zs qs : List Int) (i x : Int), e = .returned (.tuple #[v, .int .i64 i, .int .i64 x, pv]) ∧ St w w' r k v zs pv qs ∧ zs.length ≤ 41 ∧ qs.length ≤ 7 ∧ (0 ≤ i ∧ i ≤ 41) ∧ (-9223372036854775808 ≤ x ∧ x ≤ 9223372036854775807)

/-- a list's numbers, copied behind none -/
theorem src_cells {W : World} {b off : Nat} {o : Obj} {ps : List Int} (h : ∀ k, k < ps.length → W.cell? ⟨b, off + k, none⟩ = some (.int .i64 (ps.getD k 0))) :
    ∀ (j : Nat) (u : Value), (ps.map (Value.int .i64))[j]? = some u → (W.alloc o).cell? (Addr.add ⟨b, off, none⟩ j) = some u := by
  intro j u hj
  rw [List.getElem?_map] at hj
  have hjl : j < ps.length := by
    rcases Nat.lt_or_ge j ps.length with h | h
    · exact h
    · rw [List.getElem?_eq_none h] at hj; cases hj
  have h1 := h j hjl
  rw [List.getElem?_eq_getElem hjl] at hj
  cases hj
  have e : (Addr.add ⟨b, off, none⟩ j) = ⟨b, off + j, none⟩ := by unfold Addr.add; split <;> simp_all
  rw [e, World.cell?_alloc_lt _ _ _ (World.block_lt_of_cell? W _ h1), h1, Tm.getD_eq hjl]

set_option maxHeartbeats 4000000 in
theorem c30 (r k : Nat) (w : World) (hk : k ≤ 1000) (h : Rd w r k) :
    Calls Try.prog 30 #[.pointer (some ⟨r, 0, none⟩)] w (Shown w r (k + 400)) := by
  have hrl := h.lt
  have H := hide h
  clear h
  obtain ⟨i0, hi, hz0, hz1, hz2⟩ := info_parts Try.info3
  go_enter Try.func30, Try.ntmps30
  go_wp2_with fail
  refine (c42 r k 20 _ (by omega) (by omega) (unhide H)).mono ?_
  rintro e w1 ⟨v, zs, rfl, ho, hl, hr, hg⟩
  have hws1 : w.heap.size ≤ w1.heap.size := hg.size
  obtain ⟨ao, cap, rfl, hcap, -, -⟩ := ho.row
  have HO := hide ho
  have HR := hide hr
  have HG := hide hg
  clear ho hr hg H
  by_cases h0 : zs = []
  · subst h0
    have HS := hide (show St w (w1.alloc (.cells #[] 3)) r (k + 400) _ [] _ [] from ⟨hrl, (unhide HO).keptR (grown_alloc_any (grown_refl _ _)) hrl, own_empty w1 w.heap.size hws1, ((unhide HR).alloc _).mono (by omega), grown_trans (unhide HG) (grown_alloc_any (grown_refl _ _))⟩)
    clear HO HR HG
    go_wp2_with fail
    try simp only [Exit.inBlock, Exit.then]
    refine bodyPost_ret (results_tmp4 rfl _ _ _) rfl ?_
    exact ⟨_, _, [], [], _, _, rfl, unhide HS, by simp, by simp, by omega, by omega⟩
  · have hlz : ((zs.length : Int) == 0) = false := by rw [beq_eq_false_iff_ne]; intro e; exact h0 (List.eq_nil_of_length_eq_zero (by omega))
    have hpos : 0 < zs.length := by cases zs; exact absurd rfl h0; simp
    go_wp2_with fail
    refine (c43 r (k + 300) _ _ (by omega) (unhide HR)).mono ?_
    rintro e w2 ⟨q, rfl, hq, hq2, hr, hg⟩
    have hq3 := hq2 (by omega)
    obtain ⟨qN, rfl⟩ := Int.eq_ofNat_of_zero_le hq
    have HO2 := hide ((unhide HO).keptR hg hrl)
    have HR2 := hide hr
    have HG2 := hide (grown_trans (unhide HG) hg)
    clear hr hg hq2 HO HR HG
    go_wp2_with fail
    refine (c49 zs qN ao _ cap _ rfl hcap (by omega) (unhide HO2).rowOf).mono ?_
    rintro e w3 ⟨pv, rfl, hpo, hb⟩
    have HS3 := hide ((St.other (pv := .slice none 0 0) (ps := []) ⟨hrl, unhide HO2, ⟨fun z hz => by simp at hz, ⟨rfl, Or.inl ⟨rfl, rfl⟩⟩⟩, unhide HR2, unhide HG2⟩ hb hpo))
    obtain ⟨po, pcap, rfl, hpc, -, -⟩ := hpo.row
    clear hpo hb HO2 HR2 HG2
    have hl6 := treProof_len (zs := zs) (i := qN)
    have HNE : Hid (Tm.treProof zs qN ≠ [] → zs.length ≤ 40 ∧ Tm.okB (zs.getD qN 0) = true) := by
      intro hne
      by_cases hok : Tm.treOk zs = true
      · obtain ⟨t1, t2⟩ := treOk_len hok
        exact ⟨t1, Tm.okAll_at t2 (by omega)⟩
      · exact absurd (treProof_no (by intro h; exact hok h.1)) hne
    generalize Tm.treProof zs qN = ps at *
    obtain ⟨b, off, rfl, hcs⟩ := (unhide HS3).2.1.rowOf.2 h0
    have hcell := hcs qN (by omega)
    have hxb := (unhide HS3).2.1.1 (zs.getD qN 0) (by rw [Tm.getD_eq (by omega)]; exact List.getElem_mem _)
    have HX := hide hxb
    clear hcs hxb
    generalize hxx : zs.getD qN 0 = x at *
    have j0 : (0 : Int) ≤ (qN : Int) := by omega
    go_wp2_with fail
    refine (c43 r (k + 300 + 1) 5 _ (by omega) (unhide HS3).2.2.2.1).mono ?_
    rintro e w4 ⟨j, rfl, hj, hj2, hr, hg⟩
    have hj3 := hj2 (by omega)
    have HS4 := hide ((unhide HS3).step hg hr)
    clear hr hg hj2 HS3 hcell
    obtain rfl | rfl | rfl | rfl | rfl : j = 0 ∨ j = 1 ∨ j = 2 ∨ j = 3 ∨ j = 4 := by omega
    · go_wp2_with fail
      refine (c47 r (k + 300 + 1 + 1) 9 _ (by omega) (by omega) (unhide HS4).2.2.2.1).mono ?_
      rintro e w5 ⟨y, rfl, hy, hr, hg⟩
      have HS5 := hide (((unhide HS4).step hg hr).mono (k' := k + 400) (by omega))
      have HY := hide hy
      clear hr hg HS4 hy
      go_wp2_with fail
      try simp only [Exit.inBlock, Exit.then]
      refine bodyPost_ret (results_tmp4 rfl _ _ _) rfl ?_
      exact ⟨_, _, zs, ps, _, _, rfl, unhide HS5, hl, by omega, by omega, unhide HY⟩
    · by_cases hp0 : ps = []
      · subst hp0
        go_wp2_with fail
        try simp only [Exit.inBlock, Exit.then]
        refine bodyPost_ret (results_tmp4 rfl _ _ _) rfl ?_
        exact ⟨_, _, zs, [], _, _, rfl, (unhide HS4).mono (by omega), hl, by simp, by omega, unhide HX⟩
      · have hpl : 0 < ps.length := by cases ps; exact absurd rfl hp0; simp
        have hpd : (0 : Int) < (ps.length : Int) := by omega
        obtain ⟨b2, off2, rfl, hds⟩ := (unhide HS4).2.2.1.rowOf.2 hp0
        have HD := hide hds
        have HF := hide (unhide HS4).2.2.1.1
        have HE := hide (own_empty w4 w4.heap.size (Nat.le_refl _))
        clear hds
        go_wp2_with (first | (at_builtin; refine wpList_append_own _ rfl _ _ 23 rfl w4.heap.size 3 i0 (.int .i64 0) 1 8 Try.underlying23 hi hz0 hz1 hz2 rfl (by decide) _ _ _ rfl (unhide HE).2 ⟨b2, off2, none⟩ ps.length pcap (ps.map (Value.int .i64)) rfl (by simp) (src_cells (unhide HD)) (ints_oneCell _ _) ?c3 ?c4 ?c5 ?_) | fail)
        case c3 => simp [maxLen]; omega
        case c4 => simp; omega
        case c5 => simp
        intro v' w5 hown' hgrow _
        have ho5 : Own w5 w4.heap.size v' ps := ⟨unhide HF, by simpa using hown'⟩
        have hb5 : Below w4.heap.size w4 w5 := ((Below.refl _ _).alloc (Nat.le_refl _) _).grown hgrow (by simp) (fun q hq => by simp [Value.ownBlock] at hq; omega)
        have HS5 := hide ((unhide HS4).other hb5 ho5)
        have hol := (unhide HS4).2.1.2.lt b rfl
        obtain ⟨ao2, cap2, rfl, hcap2, hr2, hbl2⟩ := ho5.row
        obtain ⟨g, o2, rfl, hc2⟩ := hr2.2 hp0
        have hg2 := (hbl2 _ rfl).1
        simp only at hg2
        have ho0 : o2 = 0 := by
          rcases ho5.2.2 with ⟨hv, _⟩ | ⟨g', cap', cur, hv, r⟩
          · cases hv
          · simp only [Value.slice.injEq, Option.some.injEq, Addr.mk.injEq] at hv
            exact hv.1.2.1
        subst ho0
        clear hown' hgrow ho5 hb5 hr2 hbl2 hc2 HE HD HF HS4
        have hgw : w.heap.size ≤ g := by have := own_block (unhide HS5).2.2.1 g rfl; omega
        have hbg : b ≠ g := by omega
        go_wp2_with fail
        refine (c43 r (k + 300 + 1 + 1) _ _ (by omega) (unhide HS5).2.2.2.1).mono ?_
        rintro e w6 ⟨p, rfl, hp, hp2, hr, hg⟩
        have hp3 := hp2 (by omega)
        obtain ⟨pN, rfl⟩ := Int.eq_ofNat_of_zero_le hp
        have HS6 := hide ((unhide HS5).step hg hr)
        clear hr hg hp2 HS5
        go_wp2_with fail
        refine (c47 r (k + 300 + 1 + 1 + 1) 9 _ (by omega) (by omega) (unhide HS6).2.2.2.1).mono ?_
        rintro e w7 ⟨y, rfl, hy, hr, hg⟩
        have HS7 := hide ((unhide HS6).step hg hr)
        clear hr hg HS6
        have hq0 : ∃ u, w7.cell? ⟨g, pN, none⟩ = some (.int .i64 u) := by
          have := cells_of_own (unhide HS7).2.2.1.2 rfl pN (by omega)
          rw [Nat.zero_add] at this
          exact ⟨_, this⟩
        obtain ⟨u, hq0⟩ := hq0
        have hfr := (unhide HS7).2.2.1.2.frozenAt pN
        have HS8 := hide (show St w (w7.setCell ⟨g, pN, none⟩ (.int .i64 y)) r (k + 400) _ zs _ (ps.set pN y) from ⟨hrl, ⟨(unhide HS7).2.1.1, (unhide HS7).2.1.2.kept (grown_set w7 g pN (.int .i64 y)) (Or.inr (by simp [Value.ownBlock]; exact hbg))⟩, own_set (unhide HS7).2.2.1 rfl pN y hy,
          ((unhide HS7).2.2.2.1.kept (grown_set w7 g pN (.int .i64 y)) (fun b e => by cases e; omega)).mono (by omega),
          grown_young (unhide HS7).2.2.2.2 hgw⟩)
        clear HS7 hy
        go_wp2_with fail
        try simp only [Exit.inBlock, Exit.then]
        refine bodyPost_ret (results_tmp4 rfl _ _ _) rfl ?_
        exact ⟨_, _, zs, _, _, _, rfl, unhide HS8, hl, by simp; omega, by omega, unhide HX⟩
    · have hol := (unhide HS4).2.1.2.lt b rfl
      have HE := hide (own_empty w4 w4.heap.size (Nat.le_refl _))
      have HF := hide (unhide HS4).2.2.1.1
      have hsh : (po = none ∧ ps = [] ∧ pcap = 0) ∨ ∃ g, po = some ⟨g, 0, none⟩ := by
        rcases (unhide HS4).2.2.1.2.2 with ⟨hv, hz⟩ | ⟨g', cap', cur, hv, rr⟩
        · simp only [Value.slice.injEq] at hv
          exact Or.inl ⟨hv.1, List.eq_nil_of_length_eq_zero hz, hv.2.2⟩
        · simp only [Value.slice.injEq] at hv
          exact Or.inr ⟨g', hv.1⟩
      rcases hsh with ⟨rfl, rfl, rfl⟩ | ⟨g, rfl⟩
      · go_wp2_with (first | (at_builtin; refine wpList_append_own_none rfl _ _ 23 rfl w4.heap.size 3 i0 1 Try.underlying23 hi _ 0 [] rfl (unhide HE).2 rfl ?_) | fail)
        have hb5 : Below w4.heap.size w4 (w4.alloc (.cells #[] 3)) := (Below.refl _ _).alloc (Nat.le_refl _) _
        have HS5 := hide ((unhide HS4).other hb5 (unhide HE))
        have HP5 := HE
        clear hb5 HE HF
        go_wp2_with fail
        refine (c47 r (k + 300 + 1 + 1) 9 _ (by omega) (by omega) (unhide HS5).2.2.2.1).mono ?_
        rintro e w6 ⟨y, rfl, hy, hr, hg⟩
        have HS6 := hide ((unhide HS5).step hg hr)
        have HP6 := hide ((unhide HP5).keptR hg (by have := (unhide HS4).size; omega))
        have HY := hide hy
        clear hr hg HS5 HP5 HS4 hy
        go_wp2_with (first | (at_builtin; refine wpList_append_own _ rfl _ _ 23 rfl w.heap.size 3 i0 (.int .i64 0) 1 8 Try.underlying23 hi hz0 hz1 hz2 rfl (by decide) _ _ _ rfl ((unhide HS6).2.2.1.2.alloc _) ⟨w6.heap.size, 0, none⟩ 1 1 [.int .i64 y] rfl rfl (cell_one_new _ _ _) ?c2 ?c3 ?c4 ?c5 ?_) | fail)
        case c2 => intro u hu; simp at hu; subst hu; rfl
        case c3 => first | (unfold maxLen; omega) | (simp [maxLen]; done) | (simp [maxLen]; omega)
        case c4 => first | omega | (simp; done) | (simp; omega)
        case c5 => have hws6 := (unhide HS6).size; simp; omega
        intro v'' w7 hown'' hgrow'' _
        have HS7 := hide (((unhide HS6).snoc (b := b) rfl hol.2 (unhide HP6) (unhide HY) hown'' hgrow'').mono (k' := k + 400) (by omega))
        clear hown'' hgrow'' HS6 HP6
        go_wp2_with fail
        try simp only [Exit.inBlock, Exit.then]
        refine bodyPost_ret (results_tmp4 rfl _ _ _) rfl ?_
        exact ⟨_, _, zs, _, _, _, rfl, unhide HS7, hl, by first | (simp; done) | (simp; omega), by omega, unhide HX⟩
      · have HD := hide (cells_of_own (unhide HS4).2.2.1.2 rfl)
        go_wp2_with (first | (at_builtin; refine wpList_append_own _ rfl _ _ 23 rfl w4.heap.size 3 i0 (.int .i64 0) 1 8 Try.underlying23 hi hz0 hz1 hz2 rfl (by decide) _ _ _ rfl (unhide HE).2 ⟨g, 0, none⟩ ps.length pcap (ps.map (Value.int .i64)) rfl (by simp) (src_cells (unhide HD)) (ints_oneCell _ _) ?c3 ?c4 ?c5 ?_) | fail)
        case c3 => simp [maxLen]; omega
        case c4 => simp; omega
        case c5 => simp
        intro v' w5 hown' hgrow _
        have ho5 : Own w5 w4.heap.size v' ps := ⟨unhide HF, by simpa using hown'⟩
        have hb5 : Below w4.heap.size w4 w5 := ((Below.refl _ _).alloc (Nat.le_refl _) _).grown hgrow (by simp) (fun q hq => by simp [Value.ownBlock] at hq; omega)
        have HS5 := hide ((unhide HS4).other hb5 ho5)
        have HP5 := hide ho5
        clear hown' hgrow ho5 hb5 HE HF HD
        go_wp2_with fail
        refine (c47 r (k + 300 + 1 + 1) 9 _ (by omega) (by omega) (unhide HS5).2.2.2.1).mono ?_
        rintro e w6 ⟨y, rfl, hy, hr, hg⟩
        have HS6 := hide ((unhide HS5).step hg hr)
        have HP6 := hide ((unhide HP5).keptR hg (by have := (unhide HS4).size; omega))
        have HY := hide hy
        clear hr hg HS5 HP5 HS4 hy
        go_wp2_with (first | (at_builtin; refine wpList_append_own _ rfl _ _ 23 rfl w.heap.size 3 i0 (.int .i64 0) 1 8 Try.underlying23 hi hz0 hz1 hz2 rfl (by decide) _ _ _ rfl ((unhide HS6).2.2.1.2.alloc _) ⟨w6.heap.size, 0, none⟩ 1 1 [.int .i64 y] rfl rfl (cell_one_new _ _ _) ?c2 ?c3 ?c4 ?c5 ?_) | fail)
        case c2 => intro u hu; simp at hu; subst hu; rfl
        case c3 => first | (unfold maxLen; omega) | (simp [maxLen]; done) | (simp [maxLen]; omega)
        case c4 => first | omega | (simp; done) | (simp; omega)
        case c5 => have hws6 := (unhide HS6).size; simp; omega
        intro v'' w7 hown'' hgrow'' _
        have HS7 := hide (((unhide HS6).snoc (b := b) rfl hol.2 (unhide HP6) (unhide HY) hown'' hgrow'').mono (k' := k + 400) (by omega))
        clear hown'' hgrow'' HS6 HP6
        go_wp2_with fail
        try simp only [Exit.inBlock, Exit.then]
        refine bodyPost_ret (results_tmp4 rfl _ _ _) rfl ?_
        exact ⟨_, _, zs, _, _, _, rfl, unhide HS7, hl, by first | (simp; done) | (simp; omega), by omega, unhide HX⟩
    · by_cases hp0 : ps = []
      · subst hp0
        go_wp2_with fail
        try simp only [Exit.inBlock, Exit.then]
        refine bodyPost_ret (results_tmp4 rfl _ _ _) rfl ?_
        exact ⟨_, _, zs, [], _, _, rfl, (unhide HS4).mono (by omega), hl, by simp, by omega, unhide HX⟩
      · have hpl : 0 < ps.length := by cases ps; exact absurd rfl hp0; simp
        have hpd : (0 : Int) < (ps.length : Int) := by omega
        obtain ⟨n1, n2⟩ := HNE.out hp0
        go_wp2_with fail
        refine (c50 zs ps qN _ _ _ _ _ _ _ rfl rfl n1 (by omega) hp0 (by omega) (by rw [hxx]; exact n2) (unhide HS4).2.1.rowOf (unhide HS4).2.2.1.rowOf).mono ?_
        rintro e w5 ⟨y, v', qs, rfl, hy, ho, hql, hb⟩
        have HS5 := hide (((unhide HS4).other hb ho).mono (k' := k + 400) (by omega))
        clear ho hb HS4
        go_wp2_with fail
        try simp only [Exit.inBlock, Exit.then]
        refine bodyPost_ret (results_tmp4 rfl _ _ _) rfl ?_
        exact ⟨_, _, zs, qs, _, _, rfl, unhide HS5, hl, by omega, by omega, by omega⟩
    · go_wp2_with fail
      try simp only [Exit.inBlock, Exit.then]
      refine bodyPost_ret (results_tmp4 rfl _ _ _) rfl ?_
      exact ⟨_, _, zs, ps, _, _, rfl, (unhide HS4).mono (by omega), hl, by omega, by omega, unhide HX⟩
end Go.Proofs.Ytdbnimgbmjeplaa
