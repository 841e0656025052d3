/-
  The draw of heads that are kept.
-/
import Derived.Test.YtmlbphmbffkdnaaL21h
import Derived.Test.YtmlbphmbffkdnaaLawsho
import Derived.Test.YtmlbphmbffkdnaaLsth
namespace Go.Proofs.Ytmlbphmbffkdnaa
open Go.RowKit
set_option linter.unusedVariables false
set_option maxRecDepth 100000

theorem WOwn.kg {W W' : World} {base r : Nat} {v : Value} {es : List Tm.Hed} (h : WOwn W base v es) (hg : W.grownBy W' (some r)) (hr : r < base) : WOwn W' base v es :=
  h.kpt hg (fun b hb e => by have := h.2.lt b hb; cases e; omega)
theorem WOwn.mono {w : World} {base base' : Nat} {v : Value} {zs : List Tm.Hed} (h : WOwn w base v zs) (hb : base' ≤ base) : WOwn w base' v zs := ⟨h.1, owns_mono h.2 hb⟩
theorem wown_empty (w : World) (base : Nat) (hb : base ≤ w.heap.size) : WOwn (w.alloc (.cells #[] 61)) base (.slice (some ⟨w.heap.size, 0, none⟩) 0 0) [] :=
  ⟨fun z hz => by simp at hz, World.ownsRow_lit w #[] 0 hb (by unfold maxLen; omega) rfl⟩
theorem aL_bd (es : List Tm.Ent) (i : Int) : 0 ≤ aL es i ∧ aL es i ≤ 65520 := by
  unfold aL
  split
  · rcases h : foldIs (es.take i.toNat) with _ | _
    · rw [(hed_no h).2.1]; omega
    · have h2 := hedOk_of h
      unfold hedOk at h2
      simp only [Bool.and_eq_true] at h2
      have := (Tm.okB_iff _).1 h2.2.1
      omega
  · omega
/-- what a draw of kept heads leaves -/
def KeptD (w : World) (r k : Nat) (e : Ending) (w' : World) : Prop :=
  ∃ (v : Value) (hs : List Tm.Hed), e = .returned v ∧ hs.length ≤ 6 ∧ WOwn w' w.heap.size v hs ∧ Rd w' r k ∧ w.grownBy w' (some r)
/-- entries that an older call drew, and a row of one's own that grows -/
theorem eown_app {W W' : World} {base s0 : Nat} {v u : Value} {es : List Tm.Ent} {o : Obj} (h : EOwn W base v es) (hlt : ∀ b, v.ownBlock = some b → b < s0) (hu : ∀ b, u.ownBlock = some b → s0 ≤ b) (hg : (W.alloc o).grownBy W' u.ownBlock) : EOwn W' base v es :=
  (h.bel (below_a o)).kptG hg (fun b hb e => by have h1 := hlt b hb; have h2 := hu b e.symm; omega)
theorem rd_app {W W' : World} {r k s0 : Nat} {u : Value} {o : Obj} (h : Rd W r k) (hr : r < s0) (hu : ∀ b, u.ownBlock = some b → s0 ≤ b) (hg : (W.alloc o).grownBy W' u.ownBlock) : Rd W' r k :=
  (h.bel (below_a o)).kept hg (fun b hb => by have := hu b hb; omega)
theorem grown_app {w W W' : World} {r : Nat} {u : Value} {o : Obj} (h : w.grownBy W (some r)) (hu : ∀ b, u.ownBlock = some b → w.heap.size ≤ b) (hg : (W.alloc o).grownBy W' u.ownBlock) : w.grownBy W' (some r) := by
  have h1 := grown_trans h (World.grownBy_alloc W o (some r))
  rcases e : u.ownBlock with _ | b
  · rw [e] at hg; exact ⟨hg.os.trans h1.os, hg.tape.trans h1.tape, hg.output.trans h1.output, Nat.le_trans h1.size hg.size, fun i hi hr => (hg.block i (Nat.lt_of_lt_of_le hi h1.size) (by simp)).trans (h1.block i hi hr)⟩
  · rw [e] at hg; exact grown_new h1 hg (hu b e)

set_option maxHeartbeats 8000000 in
theorem c152 (r k : Nat) (n : Int) (es : List Tm.Ent) (al : Option Addr) (len cap base : Nat) (w : World) (hk : k ≤ 800000) (hn : 1 ≤ n ∧ n ≤ 1000000) (h : Rd w r k) (hl : es.length = len) (hl2 : len ≤ 41) (hc : len ≤ cap) (hb : r < base) (ho : EOwn w base (.slice al len cap) es) :
    Calls Try.prog 152 #[.pointer (some ⟨r, 0, none⟩), .slice al len cap, .int .i64 n] w (KeptD w r (k + 30)) := by
  obtain ⟨i0, hi, hz0, hz1, hz2⟩ := info_parts Try.infoW
  have hrl := h.lt
  have HN := hide hn
  have HL := hide hl
  have HLT := hide (fun b hb => (ho.blk b hb).2)
  have HG := hide (World.grownBy_alloc w (.cells #[] 61) (some r))
  have HRd := hide (h.alloc (.cells #[] 61))
  have HO := hide (ho.bel (below_a (.cells #[] 61)))
  have HW := hide (wown_empty w w.heap.size (Nat.le_refl _))
  clear h hn ho hl
  go_enter Try.func152, Try.ntmps152
  go_wp2_with fail
  refine (c123 r (k) 3 _ (by omega) (unhide HRd)).mono ?_
  rintro e w1 ⟨x0, rfl, x0a, x0b, hr, hg⟩
  have x0b := x0b (by omega)
  replace HG := hide (grown_trans (unhide HG) hg)
  replace HO := hide ((unhide HO).kg hg (by omega))
  replace HW := hide ((unhide HW).kg hg (by omega))
  replace HRd := hide hr
  clear hr hg
  go_wp2_with fail
  refine (c123 r (k + 1) 6 _ (by omega) (unhide HRd)).mono ?_
  rintro e w2 ⟨x1, rfl, x1a, x1b, hr, hg⟩
  have x1b := x1b (by omega)
  replace HG := hide (grown_trans (unhide HG) hg)
  replace HO := hide ((unhide HO).kg hg (by omega))
  replace HW := hide ((unhide HW).kg hg (by omega))
  replace HRd := hide hr
  clear hr hg
  go_wp2_with fail
  obtain ⟨j1, rfl⟩ := Int.eq_ofNat_of_zero_le x1a
  go_loopw [7, 8, 9] (fun v q c wr => ∃ (j : Nat) (sz : Int) (hs : List Tm.Hed), j ≤ 5 ∧ c = .int .i64 j ∧ q = .int .i64 sz ∧ 0 ≤ sz ∧ sz ≤ 50 ∧ hs.length + j ≤ 5 ∧ WOwn wr w.heap.size v hs ∧ EOwn wr base (.slice al len cap) es ∧ Rd wr r (k + 2 + 2 * (5 - j)) ∧ w.grownBy wr (some r)) (fun _ _ c _ => (intOf c).toNat)
  case atStart => exact ⟨j1, x0, [], by omega, rfl, rfl, x0a, by omega, by simp; omega, unhide HW, unhide HO, (unhide HRd).mono (by omega), unhide HG⟩
  case round =>
    obtain ⟨j, sz, hs, hj, rfl, rfl, hz0', hz50, hlen, hw, ho, hrd, hg⟩ := hrel
    clear HW HO HRd HG
    obtain ⟨WA, hWA⟩ : ∃ x, x = wr := ⟨_, rfl⟩
    subst hWA
    have HW := hide hw
    have HO := hide ho
    have HRd := hide hrd
    have HG := hide hg
    clear hw ho hrd hg
    by_cases hgo : 0 < j ∧ sz ≤ (len : Int)
    case neg =>
      rcases Nat.eq_zero_or_pos j with hj0 | hj0
      case inl =>
        subst hj0
        clear hgo
        go_wp2_with fail
        refine (c116 r (k + 2 + 2 * (5 - 0)) n _ (by omega) (unhide HN) (unhide HRd)).mono ?_
        rintro e w3 ⟨b1, rfl, hr, hg⟩
        replace HG := hide (grown_trans (unhide HG) hg)
        replace HO := hide ((unhide HO).kg hg (by omega))
        replace HW := hide ((unhide HW).kg hg (by omega))
        replace HRd := hide hr
        clear hr hg
        cases b1
        case false =>
          go_wp2_with fail
          go_ret
          exact ⟨_, hs, rfl, by omega, unhide HW, (unhide HRd).mono (by omega), unhide HG⟩
        go_wp2_with fail
        refine (c138 r (k + 2 + 2 * (5 - 0) + 1) 2 es al len cap base _ (by omega) (by omega) (unhide HRd) (unhide HL) hl2 hc hb (unhide HO)).mono ?_
        rintro e w4 ⟨hs1, hl1, ho1, rfl, hr, hg⟩
        replace HG := hide (grown_trans (unhide HG) hg)
        replace HO := hide ((unhide HO).kg hg (by omega))
        replace HW := hide ((unhide HW).kg hg (by omega))
        replace HRd := hide hr
        clear hr hg
        have hbv := fun b hb => (unhide HW).2.lt b hb
        have hsz0 := (unhide HG).size
        go_wp2_with (first | (at_builtin; refine wpList_append_own _ rfl _ _ 77 rfl w.heap.size 61 i0 _ 3 24 Try.underlying77 hi hz0 hz1 hz2 rfl (by decide) _ _ _ rfl ((unhide HW).2.alloc _) ⟨w4.heap.size, 0, none⟩ 1 1 (wCells (hs1, hl1, ho1)) rfl rfl (news_new rfl) (by simp [wCells, Value.oneCell']) (by unfold maxLen; omega) (by omega) (by simp; omega) ?_; intro v' w4 hown' hgrow _) | fail)
        have hub := fun b hb => (hbv b hb).1
        have HW2 : Hid (WOwn w4 w.heap.size v' (hs ++ [(hs1, hl1, ho1)])) := ⟨fun _ _ => trivial, by rw [List.length_append, List.flatMap_append, List.flatMap_singleton]; exact hown'⟩
        replace HO := hide (eown_app (unhide HO) (s0 := w.heap.size) (unhide HLT) hub hgrow)
        replace HRd := hide (rd_app (unhide HRd) hrl hub hgrow)
        replace HG := hide (grown_app (unhide HG) hub hgrow)
        clear HW hown' hgrow hub hsz0 hbv
        have HW := HW2
        clear HW2
        go_wp2_with fail
        go_ret
        exact ⟨_, hs ++ [(hs1, hl1, ho1)], rfl, by rw [List.length_append, List.length_singleton]; omega, unhide HW, (unhide HRd).mono (by omega), unhide HG⟩
      have hsl : ¬ sz ≤ (len : Int) := fun h => hgo ⟨hj0, h⟩
      have hj1 : (0 : Int) < (j : Int) := by omega
      clear hgo
      go_wp2_with fail
      refine (c116 r (k + 2 + 2 * (5 - j)) n _ (by omega) (unhide HN) (unhide HRd)).mono ?_
      rintro e w3 ⟨b1, rfl, hr, hg⟩
      replace HG := hide (grown_trans (unhide HG) hg)
      replace HO := hide ((unhide HO).kg hg (by omega))
      replace HW := hide ((unhide HW).kg hg (by omega))
      replace HRd := hide hr
      clear hr hg
      cases b1
      case false =>
        go_wp2_with fail
        go_ret
        exact ⟨_, hs, rfl, by omega, unhide HW, (unhide HRd).mono (by omega), unhide HG⟩
      go_wp2_with fail
      refine (c138 r (k + 2 + 2 * (5 - j) + 1) 2 es al len cap base _ (by omega) (by omega) (unhide HRd) (unhide HL) hl2 hc hb (unhide HO)).mono ?_
      rintro e w4 ⟨hs1, hl1, ho1, rfl, hr, hg⟩
      replace HG := hide (grown_trans (unhide HG) hg)
      replace HO := hide ((unhide HO).kg hg (by omega))
      replace HW := hide ((unhide HW).kg hg (by omega))
      replace HRd := hide hr
      clear hr hg
      have hbv := fun b hb => (unhide HW).2.lt b hb
      have hsz0 := (unhide HG).size
      go_wp2_with (first | (at_builtin; refine wpList_append_own _ rfl _ _ 77 rfl w.heap.size 61 i0 _ 3 24 Try.underlying77 hi hz0 hz1 hz2 rfl (by decide) _ _ _ rfl ((unhide HW).2.alloc _) ⟨w4.heap.size, 0, none⟩ 1 1 (wCells (hs1, hl1, ho1)) rfl rfl (news_new rfl) (by simp [wCells, Value.oneCell']) (by unfold maxLen; omega) (by omega) (by simp; omega) ?_; intro v' w4 hown' hgrow _) | fail)
      have hub := fun b hb => (hbv b hb).1
      have HW2 : Hid (WOwn w4 w.heap.size v' (hs ++ [(hs1, hl1, ho1)])) := ⟨fun _ _ => trivial, by rw [List.length_append, List.flatMap_append, List.flatMap_singleton]; exact hown'⟩
      replace HO := hide (eown_app (unhide HO) (s0 := w.heap.size) (unhide HLT) hub hgrow)
      replace HRd := hide (rd_app (unhide HRd) hrl hub hgrow)
      replace HG := hide (grown_app (unhide HG) hub hgrow)
      clear HW hown' hgrow hub hsz0 hbv
      have HW := HW2
      clear HW2
      go_wp2_with fail
      go_ret
      exact ⟨_, hs ++ [(hs1, hl1, ho1)], rfl, by rw [List.length_append, List.length_singleton]; omega, unhide HW, (unhide HRd).mono (by omega), unhide HG⟩
    obtain ⟨hj0, hsl⟩ := hgo
    have hj1 : (0 : Int) < (j : Int) := by omega
    go_wp2_with fail
    generalize hs1 : aS es sz = s at *
    generalize hl1 : aL es sz = l at *
    generalize ho1 : aO es sz = o at *
    generalize hbb1 : aI es sz = bb at *
    have HS1 := hide hs1
    have HL1 := hide hl1
    have HO1 := hide ho1
    have HB1 := hide hbb1
    clear hs1 hl1 ho1 hbb1
    refine (c189 es sz al len cap _ (unhide HL) hc (by omega) ((unhide HO).rd (unhide HL))).mono ?_
    rintro e w3 ⟨rfl, hb⟩
    rw [unhide HS1, unhide HL1, unhide HO1, unhide HB1]
    have hlB := aL_bd es sz
    rw [unhide HL1] at hlB
    replace HG := hide (grown_bel (unhide HG) hb)
    replace HRd := hide ((unhide HRd).bel hb)
    replace HO := hide ((unhide HO).bel hb)
    replace HW := hide ((unhide HW).bel hb)
    clear hb
    have hbv := fun b hb => (unhide HW).2.lt b hb
    have hsw := (unhide HG).size
    clear HS1 HL1 HO1 HB1
    have hzHX : r < w3.heap.size := (unhide HRd).lt
    replace HG := hide (grown_trans (unhide HG) (World.grownBy_alloc _ (.cells #[.int .i64 s, .int .i64 l, .int .i64 o] 61) _))
    replace HRd := hide ((unhide HRd).alloc (.cells #[.int .i64 s, .int .i64 l, .int .i64 o] 61))
    replace HO := hide ((unhide HO).bel (below_a (.cells #[.int .i64 s, .int .i64 l, .int .i64 o] 61)))
    replace HW := hide ((unhide HW).bel (below_a (.cells #[.int .i64 s, .int .i64 l, .int .i64 o] 61)))
    have HX := hide (box_new w3 [.int .i64 s, .int .i64 l, .int .i64 o] 61 (by simp [Value.oneCell']))
    have x0 := (unhide HX).cell 0 rfl
    have x0f := (unhide HX).frozen 0 rfl
    have x1 := (unhide HX).cell 1 rfl
    have x1f := (unhide HX).frozen 1 rfl
    have x2 := (unhide HX).cell 2 rfl
    have x2f := (unhide HX).frozen 2 rfl
    go_wp2_with fail
    refine (c123 r (k + 2 + 2 * (5 - j)) 5 _ (by omega) (unhide HRd)).mono ?_
    rintro e w4 ⟨y, rfl, ya, yb, hr, hg⟩
    have yb := yb (by omega)
    (try clear x0 x0f x1 x1f x2 x2f)
    replace HG := hide (grown_trans (unhide HG) hg)
    replace HO := hide ((unhide HO).kg hg (by omega))
    replace HW := hide ((unhide HW).kg hg (by omega))
    replace HX := hide ((unhide HX).kg hg (by omega))
    replace HRd := hide hr
    clear hr hg
    have x0 := (unhide HX).cell 0 rfl
    have x0f := (unhide HX).frozen 0 rfl
    have x1 := (unhide HX).cell 1 rfl
    have x1f := (unhide HX).frozen 1 rfl
    have x2 := (unhide HX).cell 2 rfl
    have x2f := (unhide HX).frozen 2 rfl
    by_cases hy : y = 0
    case pos =>
      subst hy
      have hmd : Int.tmod (l + 1) 65521 = (l + 1) % 65521 := Int.tmod_eq_emod_of_nonneg (by omega)
      replace HW := hide ((unhide HW).kpt (grown_cel _ (w3.heap.size) 1 (.int .i64 ((l + 1) % 65521))) (fun b hb e => by have := (hbv b hb).2; simp only [Option.some.injEq] at e; omega))
      replace HO := hide ((unhide HO).kptG (grown_cel _ (w3.heap.size) 1 (.int .i64 ((l + 1) % 65521))) (fun b hb e => by have := unhide HLT b hb; simp only [Option.some.injEq] at e; omega))
      replace HRd := hide ((unhide HRd).oth (g := w3.heap.size) (i := 1) (.int .i64 ((l + 1) % 65521)) (by omega))
      replace HG := hide (grown_oth (g := w3.heap.size) (i := 1) (unhide HG) (.int .i64 ((l + 1) % 65521)) hsw)
      have hsz0 := (unhide HG).size
      (try simp only [World.size_setCell] at hsz0)
      go_wp2_with (first | (at_builtin; refine wpList_append_own _ rfl _ _ 77 rfl w.heap.size 61 i0 _ 3 24 Try.underlying77 hi hz0 hz1 hz2 rfl (by decide) _ _ _ rfl ((unhide HW).2.alloc _) ⟨w4.heap.size, 0, none⟩ 1 1 (wCells (s, (l + 1) % 65521, o)) rfl rfl (news_new (by simp)) (by simp [wCells, Value.oneCell']) (by unfold maxLen; omega) (by omega) (by first | omega | (simp; omega)) ?_; intro v' w9 hown' hgrow _) | fail)
      have hub := fun b hb => (hbv b hb).1
      (try clear x0 x0f x1 x1f x2 x2f)
      have HW2 : Hid (WOwn w9 w.heap.size v' (hs ++ [(s, (l + 1) % 65521, o)])) := ⟨fun _ _ => trivial, by rw [List.length_append, List.flatMap_append, List.flatMap_singleton]; exact hown'⟩
      replace HO := hide (eown_app (unhide HO) (s0 := w.heap.size) (unhide HLT) hub hgrow)
      replace HRd := hide (rd_app (unhide HRd) hrl hub hgrow)
      replace HG := hide (grown_app (unhide HG) hub hgrow)
      clear HW HX hown' hgrow hub hsz0 hbv
      have HW := HW2
      clear HW2
      (try go_wp2_with fail)
      refine (c123 r (k + 2 + 2 * (5 - j) + 1) 4 _ (by omega) (unhide HRd)).mono ?_
      rintro e w10 ⟨z, rfl, za, zb, hr, hg⟩
      have zb := zb (by omega)
      replace HG := hide (grown_trans (unhide HG) hg)
      replace HO := hide ((unhide HO).kg hg (by omega))
      replace HW := hide ((unhide HW).kg hg (by omega))
      replace HRd := hide hr
      clear hr hg
      go_wp2_with fail
      go_roundw
      case rel => exact ⟨j - 1, sz + 1 + z, _, by omega, by go_num, by go_num, by omega, by omega, by rw [List.length_append, List.length_singleton]; omega, unhide HW, unhide HO, (unhide HRd).mono (by omega), unhide HG⟩
      case measure => simp [intOf]; omega
    have dy : (y == 0) = false := by rw [beq_eq_false_iff_ne]; exact hy
    clear hy
    have hsz0 := (unhide HG).size
    (try simp only [World.size_setCell] at hsz0)
    go_wp2_with (first | (at_builtin; refine wpList_append_own _ rfl _ _ 77 rfl w.heap.size 61 i0 _ 3 24 Try.underlying77 hi hz0 hz1 hz2 rfl (by decide) _ _ _ rfl ((unhide HW).2.alloc _) ⟨w4.heap.size, 0, none⟩ 1 1 (wCells (s, l, o)) rfl rfl (news_new (by simp)) (by simp [wCells, Value.oneCell']) (by unfold maxLen; omega) (by omega) (by first | omega | (simp; omega)) ?_; intro v' w9 hown' hgrow _) | fail)
    have hub := fun b hb => (hbv b hb).1
    (try clear x0 x0f x1 x1f x2 x2f)
    have HW2 : Hid (WOwn w9 w.heap.size v' (hs ++ [(s, l, o)])) := ⟨fun _ _ => trivial, by rw [List.length_append, List.flatMap_append, List.flatMap_singleton]; exact hown'⟩
    replace HO := hide (eown_app (unhide HO) (s0 := w.heap.size) (unhide HLT) hub hgrow)
    replace HRd := hide (rd_app (unhide HRd) hrl hub hgrow)
    replace HG := hide (grown_app (unhide HG) hub hgrow)
    clear HW HX hown' hgrow hub hsz0 hbv
    have HW := HW2
    clear HW2
    (try go_wp2_with fail)
    refine (c123 r (k + 2 + 2 * (5 - j) + 1) 4 _ (by omega) (unhide HRd)).mono ?_
    rintro e w10 ⟨z, rfl, za, zb, hr, hg⟩
    have zb := zb (by omega)
    replace HG := hide (grown_trans (unhide HG) hg)
    replace HO := hide ((unhide HO).kg hg (by omega))
    replace HW := hide ((unhide HW).kg hg (by omega))
    replace HRd := hide hr
    clear hr hg
    go_wp2_with fail
    go_roundw
    case rel => exact ⟨j - 1, sz + 1 + z, _, by omega, by go_num, by go_num, by omega, by omega, by rw [List.length_append, List.length_singleton]; omega, unhide HW, unhide HO, (unhide HRd).mono (by omega), unhide HG⟩
    case measure => simp [intOf]; omega
end Go.Proofs.Ytmlbphmbffkdnaa
