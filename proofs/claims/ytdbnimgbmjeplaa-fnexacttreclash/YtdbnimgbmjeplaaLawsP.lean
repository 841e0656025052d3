/-
  The walk of the law FnExactTreClash: at every argument it answers true, and nothing that was there is written.
-/
import Derived.Test.YtdbnimgbmjeplaaLawsL
import Derived.Test.YtdbnimgbmjeplaaLawsH
namespace Go.Proofs.Ytdbnimgbmjeplaa
open Go.RowKit
set_option linter.unusedVariables false

set_option maxHeartbeats 1000000 in
/-- a marking from any number on: how far it has come; no other block is written -/
theorem c28k (zs : List Int) (base k0 : Nat) (v : Value) (w : World) (hz : zs.length ≤ 1048576) (hk0 : k0 ≤ 2000000) (ho : Own w base v zs) :
    Calls Try.prog 28 #[v, .int .i64 (k0 : Int)] w fun e w' => e = .returned (.int .i64 ((k0 : Int) + (zs.length : Int))) ∧ w.grownBy w' v.ownBlock := by
  obtain ⟨hf, hown⟩ := ho
  rcases hown.2 with ⟨hv, h0⟩ | ⟨g, cap, cur, hv, -⟩
  · have : zs = [] := List.eq_nil_of_length_eq_zero h0
    subst this
    subst hv
    clear hown hf
    go_enter Try.func28, Try.ntmps28
    go_wp2_with fail
    refine wp_loop_rounds 1 ?_
    rw [rounds_succ]
    go_wp2_with fail
    go_ret
    exact ⟨ret_int (by simp), World.grownBy.refl _ _⟩
  · subst hv
    have HS := hide hown
    clear hown hf
    go_enter Try.func28, Try.ntmps28
    go_wp2_with fail
    go_loopw [1, 5] (fun kk i wr => ∃ (k : Nat) (ms : List Value), k ≤ zs.length ∧ ms.length = zs.length ∧ i = .int .i64 k ∧ kk = .int .i64 ((k0 : Int) + (k : Int)) ∧ wr.ownsRow base 3 1 (.slice (some ⟨g, 0, none⟩) zs.length cap) zs.length ms ∧ w.grownBy wr (some g)) (fun _ i _ => zs.length - (intOf i).toNat)
    case atStart => exact ⟨0, _, Nat.zero_le _, by simp, rfl, by simp, unhide HS, World.grownBy.refl _ _⟩
    case round =>
      obtain ⟨k, ms, hk, hml, rfl, rfl, hown, hg⟩ := hrel
      clear HS
      by_cases hlt : k < zs.length
      · have hold : ∃ u, wr.cell? ⟨g, k, none⟩ = some u := by
          rw [hown.cellAt k (by omega)]
          exact ⟨_, List.getElem?_eq_getElem (by omega)⟩
        obtain ⟨vold, hold⟩ := hold
        have hfr := hown.frozenAt k
        have hst := hown.stored k (.int .i64 ((k0 : Int) + (k : Int)))
        have H1 := hide hst.1
        have H2 := hide (grown_trans hg hst.2)
        clear hst hown hg
        go_wp2_with fail
        go_roundw
        case rel => exact ⟨k + 1, _, by omega, by rw [List.length_set]; exact hml, by go_num, by go_num, unhide H1, unhide H2⟩
        case measure => simp [intOf]; omega
      · have hke : k = zs.length := by omega
        subst hke
        have H2 := hide hg
        clear hown hg
        go_wp2_with fail
        go_ret
        exact ⟨rfl, unhide H2⟩

/-- What the law holds on to: both arguments, the model's answer, the program's answer. -/
structure Bag (w W : World) (ao bo a0 : Option Addr) (zs qs ps : List Int) (B3 B5 : Nat) (vg : Value) : Prop where
  a : Row W ao zs
  b : Row W bo qs
  o : Row W a0 ps
  g : Own W B5 vg ps
  h : Below w.heap.size w W
  la : zs ≠ [] → ∀ u, ao = some u → u.block < w.heap.size
  lb : qs ≠ [] → ∀ u, bo = some u → u.block < w.heap.size
  lo : ∀ u, a0 = some u → u.block < B3
  l3 : w.heap.size ≤ B3
theorem Bag.below {w W W' : World} {ao bo a0 : Option Addr} {zs qs ps : List Int} {B3 B5 : Nat} {vg : Value} (h : Bag w W ao bo a0 zs qs ps B3 B5 vg) (hb : Below W.heap.size W W') : Bag w W' ao bo a0 zs qs ps B3 B5 vg :=
  ⟨h.a.below hb (Nat.le_refl _), h.b.below hb (Nat.le_refl _), h.o.below hb (Nat.le_refl _), h.g.below hb, below_then h.h hb, h.la, h.lb, h.lo, h.l3⟩
/-- one of the copies is marked -/
theorem Bag.mark {w W W' : World} {ao bo a0 : Option Addr} {zs qs ps : List Int} {B3 B5 R : Nat} {vg : Value} (h : Bag w W ao bo a0 zs qs ps B3 B5 vg) (h1 : B3 ≤ R) (h2 : R < B5) (hg : W.grownBy W' (some R)) : Bag w W' ao bo a0 zs qs ps B3 B5 vg := by
  have l3 := h.l3
  refine ⟨h.a.keptN hg (fun hz u hu e => ?_), h.b.keptN hg (fun hz u hu e => ?_), h.o.keptN hg (fun hz u hu e => ?_), ⟨h.g.1, h.g.2.kept hg (Or.inr ?_)⟩, h.h.grown hg h.h.size (fun k hk => by cases hk; omega), h.la, h.lb, h.lo, h.l3⟩
  · have := h.la hz u hu
    simp only [Option.some.injEq] at e
    omega
  · have := h.lb hz u hu
    simp only [Option.some.injEq] at e
    omega
  · have := h.lo u hu
    simp only [Option.some.injEq] at e
    omega
  · intro e
    have := own_block h.g R e
    omega
/-- the program's answer is marked -/
theorem Bag.markG {w W W' : World} {ao bo a0 : Option Addr} {zs qs ps : List Int} {B3 B5 : Nat} {vg : Value} (h : Bag w W ao bo a0 zs qs ps B3 B5 vg) (h1 : B3 ≤ B5) (hg : W.grownBy W' vg.ownBlock) : Row W' ao zs ∧ Row W' bo qs ∧ Row W' a0 ps ∧ Below w.heap.size w W' := by
  have l3 := h.l3
  refine ⟨h.a.keptN hg (fun hz u hu e => ?_), h.b.keptN hg (fun hz u hu e => ?_), h.o.keptN hg (fun hz u hu e => ?_), h.h.grown hg h.h.size (fun k hk => by have := own_block h.g k hk; omega)⟩
  · have := h.la hz u hu
    have := own_block h.g _ e.symm
    omega
  · have := h.lb hz u hu
    have := own_block h.g _ e.symm
    omega
  · have := h.lo u hu
    have := own_block h.g _ e.symm
    omega
theorem own_row_of {W : World} {B n : Nat} {zs : List Int} (h : Own W B (.slice (some ⟨B, 0, none⟩) n n) zs) : Row W (some ⟨B, 0, none⟩) zs := by
  obtain ⟨q1, q2, q3, q4, q5, q6⟩ := h.row
  simp only [Value.slice.injEq] at q3
  rw [q3.1]; exact q5
theorem Own.apart {W W' : World} {B n R : Nat} {zs : List Int} (h : Own W B (.slice (some ⟨B, 0, none⟩) n n) zs) (hne : B ≠ R) (hg : W.grownBy W' (some R)) : Own W' B (.slice (some ⟨B, 0, none⟩) n n) zs :=
  ⟨h.1, h.2.kept hg (Or.inr (by simp [Value.ownBlock]; exact hne))⟩
theorem treClash_len {ys ps : List Int} {i x : Int} : (Tm.treClash ys i x ps).length ≤ 4 := by
  by_cases hh : Tm.treOk ys = true ∧ Tm.treCheck (Tm.treRoot ys) ys.length i x ps = true ∧ x ≠ ys.getD i.toNat 0
  · rw [treClash_of hh]
    obtain ⟨a, b, c, d, he, -⟩ := Tm.clash_is ys.length ys i x ps (Nat.le_refl _) (Tm.inv_of hh.1 hh.2.1 hh.2.2)
    rw [he]; simp
  · rw [treClash_no hh]; simp

set_option maxHeartbeats 4000000 in
theorem law7 (zs qs : List Int) (i x : Int) (ao bo : Option Addr) (n cap m cap' : Nat) (w : World) (hn : zs.length = n) (hcap : n ≤ cap) (hmx : cap ≤ maxLen) (hr : Row w ao zs) (hm : qs.length = m) (hcap' : m ≤ cap') (hmx' : cap' ≤ maxLen) (hs : Row w bo qs) :
    Calls Try.prog 7 #[.slice ao n cap, .int .i64 i, .int .i64 x, .slice bo m cap'] w (Holds w) := by
  unfold maxLen at hmx hmx'
  by_cases hbig : (1048576 : Int) < (n : Int)
  · go_enter Try.func7, Try.ntmps7
    go_wp2_with fail
    go_ret
    exact ⟨rfl, Below.refl _ _⟩
  have dbig : decide ((1048576 : Int) < (n : Int)) = false := by simpa using hbig
  by_cases hbig' : (1048576 : Int) < (m : Int)
  · go_enter Try.func7, Try.ntmps7
    go_wp2_with fail
    go_ret
    exact ⟨rfl, Below.refl _ _⟩
  have HLA := hide (fun hz => hr.lt hz)
  have HLB := hide (fun hz => hs.lt hz)
  have HR := hide hr
  have HS := hide hs
  have HN := hide hn
  have HM := hide hm
  have hl4 := treClash_len (ys := zs) (ps := qs) (i := i) (x := x)
  clear hr hn hs hm
  go_enter Try.func7, Try.ntmps7
  go_wp2_with fail
  refine (copy_any zs ao n cap _ HN.out (by omega) (unhide HR)).mono ?_
  rintro e w1 ⟨rfl, hr1, hb1⟩
  have HR1 := hide hr1
  have HB1 := hide hb1
  clear hr1 hb1
  go_wp2_with fail
  refine (copy_any qs bo m cap' _ HM.out (by omega) ((unhide HS).below (unhide HB1) (Nat.le_refl _))).mono ?_
  rintro e w2 ⟨rfl, hs2, hb2⟩
  have HR2 := hide ((unhide HR1).below hb2 (Nat.le_refl _))
  have HS2 := hide hs2
  have HB2 := hide (below_then (unhide HB1) hb2)
  clear hs2 hb2 HR1 HB1
  go_wp2_with fail
  refine (c13 zs qs i x _ _ n n m m _ HN.out HM.out (Nat.le_refl _) (Nat.le_refl _) (by omega) (by omega) (unhide HR2) (unhide HS2)).mono ?_
  rintro e w3 ⟨v0, rfl, ho0, hb3⟩
  obtain ⟨a0, cap0, rfl, hcap0, hr0, hbl0⟩ := told_all ho0
  have H0 := hide hr0
  have HL0 := hide (fun a ha => (hbl0 a ha).2)
  have HB3 := hide (below_then (unhide HB2) hb3)
  clear ho0 hr0 hbl0 hb3 HR2 HS2 HB2
  go_wp2_with fail
  refine (c26 zs ao n cap _ HN.out (by omega) ((unhide HR).below (unhide HB3) (Nat.le_refl _))).mono ?_
  rintro e w4 ⟨rfl, hox, hb4⟩
  have HX := hide hox
  have H04 := hide ((unhide H0).below hb4 (Nat.le_refl _))
  have HB4 := hide (below_then (unhide HB3) hb4)
  have hs34 : w3.heap.size < w4.heap.size := ((unhide HX).2.lt w3.heap.size rfl).2
  have hs03 : w.heap.size ≤ w3.heap.size := (unhide HB3).size
  clear hox hb4 H0 HB3
  go_wp2_with fail
  refine (c26 qs bo m cap' _ HM.out (by omega) ((unhide HS).below (unhide HB4) (Nat.le_refl _))).mono ?_
  rintro e w5 ⟨rfl, hoy, hb5⟩
  have HY := hide hoy
  have HX5 := hide ((unhide HX).below hb5)
  have H05 := hide ((unhide H04).below hb5 (Nat.le_refl _))
  have HB5 := hide (below_then (unhide HB4) hb5)
  have hs45 : w4.heap.size < w5.heap.size := ((unhide HY).2.lt w4.heap.size rfl).2
  clear hoy hb5 H04 HB4 HX
  go_wp2_with fail
  refine (c11 goes75 zs qs i x _ _ n n m m _ HN.out HM.out (Nat.le_refl _) (Nat.le_refl _) (by omega) (by omega) (own_row_of (unhide HX5)) (own_row_of (unhide HY))).mono ?_
  rintro e w6 ⟨vg, rfl, hog, hb6⟩
  have HX6 := hide ((unhide HX5).below hb6)
  have HY6 := hide ((unhide HY).below hb6)
  have HG : Hid (Bag w w6 ao bo a0 zs qs (Tm.treClash zs i x qs) w3.heap.size w5.heap.size vg) :=
    ⟨(unhide HR).below (below_then (unhide HB5) hb6) (Nat.le_refl _), (unhide HS).below (below_then (unhide HB5) hb6) (Nat.le_refl _), (unhide H05).below hb6 (Nat.le_refl _), hog, below_then (unhide HB5) hb6, unhide HLA, unhide HLB, unhide HL0, hs03⟩
  obtain ⟨ag, capg, rfl, hcapg, -, -⟩ := told_all hog
  clear hog hb6 HX5 HY H05 HB5 HLA HLB HL0 HR HS
  generalize hps : Tm.treClash zs i x qs = ps at *
  have HPS := hide hps
  clear hps
  go_wp2_with fail
  refine (c27 ps ps _ _ _ _ _ _ _ rfl rfl (by omega) (by omega) (unhide HG).g.rowOf (unhide HG).o).mono ?_
  rintro e w7 ⟨rfl, q, hq⟩
  rw [decide_self]
  have hbq : Below w6.heap.size w6 w7 := by rw [hq]; exact below_drewN (Below.refl _ _) q
  have HG7 := hide ((unhide HG).below hbq)
  have HX7 := hide ((unhide HX6).below hbq)
  have HY7 := hide ((unhide HY6).below hbq)
  clear hq hbq HG HX6 HY6
  go_wp2_with fail
  refine (copy_any zs ao n cap _ HN.out (by omega) (unhide HG7).a).mono ?_
  rintro e w8 ⟨rfl, hr8, hb8⟩
  have HC8 := hide hr8
  have HG8 := hide ((unhide HG7).below hb8)
  have HX8 := hide ((unhide HX7).below hb8)
  have HY8 := hide ((unhide HY7).below hb8)
  clear hr8 hb8 HG7 HX7 HY7
  go_wp2_with fail
  refine (c27 zs zs _ _ n n n n _ HN.out HN.out (by omega) (by omega) (own_row_of (unhide HX8)) (unhide HC8)).mono ?_
  rintro e w9 ⟨rfl, q9, hq⟩
  rw [decide_self]
  have hbq : Below w8.heap.size w8 w9 := by rw [hq]; exact below_drewN (Below.refl _ _) q9
  have HG9 := hide ((unhide HG8).below hbq)
  have HX9 := hide ((unhide HX8).below hbq)
  have HY9 := hide ((unhide HY8).below hbq)
  clear hq hbq HG8 HX8 HY8 HC8
  go_wp2_with fail
  refine (copy_any qs bo m cap' _ HM.out (by omega) (unhide HG9).b).mono ?_
  rintro e w10 ⟨rfl, hr10, hb10⟩
  have HC10 := hide hr10
  have HG10 := hide ((unhide HG9).below hb10)
  have HX10 := hide ((unhide HX9).below hb10)
  have HY10 := hide ((unhide HY9).below hb10)
  clear hr10 hb10 HG9 HX9 HY9
  go_wp2_with fail
  refine (c27 qs qs _ _ m m m m _ HM.out HM.out (by omega) (by omega) (own_row_of (unhide HY10)) (unhide HC10)).mono ?_
  rintro e w11 ⟨rfl, q11, hq⟩
  rw [decide_self]
  have hbq : Below w10.heap.size w10 w11 := by rw [hq]; exact below_drewN (Below.refl _ _) q11
  have HG11 := hide ((unhide HG10).below hbq)
  have HX11 := hide ((unhide HX10).below hbq)
  have HY11 := hide ((unhide HY10).below hbq)
  clear hq hbq HG10 HX10 HY10 HC10
  go_wp2_with fail
  refine (c28k zs w3.heap.size 1 _ _ (by have := unhide HN; omega) (by omega) (unhide HX11)).mono ?_
  rintro e w12 ⟨rfl, hg12⟩
  have hg12' : w11.grownBy w12 (some w3.heap.size) := hg12
  have HG12 := hide ((unhide HG11).mark (Nat.le_refl _) (by omega) hg12')
  have HY12 := hide ((unhide HY11).apart (by omega) hg12')
  rw [unhide HN]
  clear hg12 hg12' HG11 HX11 HY11
  have hn2 : (n : Int) ≤ 1048576 := by omega
  have hm2 : (m : Int) ≤ 1048576 := by omega
  go_wp2_with fail
  rw [show (1 : Int) + (n : Int) = ((1 + n : Nat) : Int) by omega]
  refine (c28k qs w4.heap.size (1 + n) _ _ (by have := unhide HM; omega) (by omega) (unhide HY12)).mono ?_
  rintro e w13 ⟨rfl, hg13⟩
  have hg13' : w12.grownBy w13 (some w4.heap.size) := hg13
  have HG13 := hide ((unhide HG12).mark (by omega) (by omega) hg13')
  rw [unhide HM]
  clear hg13 hg13' HG12 HY12
  generalize hks : ((1 + n : Nat) : Int) + (m : Int) = ks at *
  have hk0 : 0 ≤ ks := by omega
  clear hks
  go_wp2_with fail
  refine (c27 ps ps _ _ _ _ _ _ _ rfl rfl (by omega) (by omega) (unhide HG13).g.rowOf (unhide HG13).o).mono ?_
  rintro e w14 ⟨rfl, q14, hq⟩
  rw [decide_self]
  have hbq : Below w13.heap.size w13 w14 := by rw [hq]; exact below_drewN (Below.refl _ _) q14
  have HG14 := hide ((unhide HG13).below hbq)
  clear hq hbq HG13
  go_wp2_with fail
  refine (c28 ps w5.heap.size _ _ (by omega) (unhide HG14).g).mono ?_
  rintro e w15 ⟨rfl, hog15, hg15⟩
  have HA15 := hide ((unhide HG14).markG (by omega) hg15)
  have HGr15 : Hid (Row w15 ag (marked ps ps.length)) := by
    obtain ⟨q1, q2, q3, q4, q5, q6⟩ := hog15.row
    rw [marked_len _ _ (Nat.le_refl _)] at q3
    simp only [Value.slice.injEq] at q3
    rw [q3.1]; exact q5
  clear hog15 hg15 HG14
  go_wp2_with fail
  refine (c29 ps _ _ _ _ rfl (by omega) (unhide HGr15)).mono ?_
  rintro e w15' ⟨rfl, rfl⟩
  go_wp2_with fail
  refine (copy_any zs ao n cap _ HN.out (by omega) (unhide HA15).1).mono ?_
  rintro e w16 ⟨rfl, hr16, hb16⟩
  have HR16 := hide hr16
  have HB16 := hide hb16
  clear hr16 hb16
  go_wp2_with fail
  refine (copy_any qs bo m cap' _ HM.out (by omega) ((unhide HA15).2.1.below (unhide HB16) (Nat.le_refl _))).mono ?_
  rintro e w17 ⟨rfl, hr17, hb17⟩
  have HR17 := hide ((unhide HR16).below hb17 (Nat.le_refl _))
  have HS17 := hide hr17
  have HB17 := hide (below_then (unhide HB16) hb17)
  clear hr17 hb17 HR16 HB16
  go_wp2_with fail
  refine (c11 goes75 zs qs i x _ _ n n m m _ HN.out HM.out (Nat.le_refl _) (Nat.le_refl _) (by omega) (by omega) (unhide HR17) (unhide HS17)).mono ?_
  rintro e w18 ⟨vh, rfl, hoh, hb18⟩
  rw [unhide HPS] at hoh
  obtain ⟨ah, caph, rfl, hcaph, hrh, -⟩ := told_all hoh
  have HH := hide hrh
  have HB18 := hide (below_then (unhide HB17) hb18)
  clear hoh hrh hb18 HR17 HS17 HB17
  go_wp2_with fail
  refine (c27 ps ps _ _ _ _ _ _ _ rfl rfl (by omega) (by omega) (unhide HH) ((unhide HA15).2.2.1.below (unhide HB18) (Nat.le_refl _))).mono ?_
  rintro e w19 ⟨rfl, q19, hq⟩
  rw [decide_self]
  have HB19 : Hid (Below w15'.heap.size w15' w19) := by unfold Hid; rw [hq]; exact below_drewN (unhide HB18) q19
  clear hq HB18
  go_wp2_with fail
  refine (c29 ps _ _ _ _ rfl (by omega) ((unhide HGr15).below (unhide HB19) (Nat.le_refl _))).mono ?_
  rintro e w20 ⟨rfl, rfl⟩
  go_wp2_with fail
  go_ret
  exact ⟨rfl, below_then (unhide HA15).2.2.2 (unhide HB19)⟩
end Go.Proofs.Ytdbnimgbmjeplaa
