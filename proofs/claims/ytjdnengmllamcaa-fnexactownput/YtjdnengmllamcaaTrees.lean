/-
  The walks of roots, in the model (TreRoot) and in the program: parts, treeOf, TreRoot.
-/
import Derived.Test.YtjdnengmllamcaaRoots
namespace Go.Proofs.Ytjdnengmllamcaa
open Go.RowKit
set_option linter.unusedVariables false

set_option maxHeartbeats 1000000 in
theorem c157 (p pl pr : Nat) (x y : Int) (w : World) (h2 : w.cell? ⟨p, 2, none⟩ = some (.pointer (some ⟨pl, 0, none⟩))) (h3 : w.cell? ⟨p, 3, none⟩ = some (.pointer (some ⟨pr, 0, none⟩)))
    (hx : w.cell? ⟨pl, 0, none⟩ = some (.int .i64 x)) (hy : w.cell? ⟨pr, 0, none⟩ = some (.int .i64 y)) :
    Calls Try.prog 157 #[.pointer (some ⟨p, 0, none⟩)] w fun e w' => e = .returned (.agg #[.int .i64 x, .int .i64 y]) ∧ Below w.heap.size w w' := by
  have hbW : Below w.heap.size w (w.alloc (.cells #[.int .i64 0, .int .i64 0] 141)) := (Below.refl _ _).alloc (Nat.le_refl _) _
  have g2 := cell_below hbW h2
  have g3 := cell_below hbW h3
  have gx := cell_below hbW hx
  have gy := cell_below hbW hy
  clear h2 h3 hx hy
  have HB := hide hbW
  clear hbW
  go_enter Try.func157, Try.ntmps157
  go_wp2_with fail
  go_region
  go_wp2_with fail
  refine bodyPost_ret (v := .agg #[.int .i64 x, .int .i64 y]) (by simp [results, Try.results157, go_sem]) rfl ⟨rfl, ?_⟩
  exact ((Below.refl _ _).alloc (Nat.le_refl _) _).drew

/-- A tree of leaves in memory, as the program builds it: its root, how many leaves, and, of two or more, both parts. -/
def TreeAt : Nat → World → Nat → List Int → Prop
  | 0, _, _, _ => False
  | f + 1, w, p, l => w.cell? ⟨p, 0, none⟩ = some (.int .i64 (Tm.root l)) ∧ w.cell? ⟨p, 1, none⟩ = some (.int .i64 l.length) ∧
      (2 ≤ l.length → ∃ pl pr, w.cell? ⟨p, 2, none⟩ = some (.pointer (some ⟨pl, 0, none⟩)) ∧ w.cell? ⟨p, 3, none⟩ = some (.pointer (some ⟨pr, 0, none⟩)) ∧ TreeAt f w pl (l.take (Tm.sp l)) ∧ TreeAt f w pr (l.drop (Tm.sp l)))
theorem TreeAt.below {w w' : World} (hb : Below w.heap.size w w') : ∀ (f p : Nat) (l : List Int), TreeAt f w p l → TreeAt f w' p l := by
  intro f
  induction f with
  | zero => intro p l h; exact h
  | succ f ih =>
    intro p l h
    obtain ⟨h0, h1, h2⟩ := h
    refine ⟨cell_below hb h0, cell_below hb h1, fun hl => ?_⟩
    obtain ⟨pl, pr, h3, h4, h5, h6⟩ := h2 hl
    exact ⟨pl, pr, cell_below hb h3, cell_below hb h4, ih _ _ h5, ih _ _ h6⟩
theorem TreeAt.root {f : Nat} {w : World} {p : Nat} {l : List Int} (h : TreeAt f w p l) : w.cell? ⟨p, 0, none⟩ = some (.int .i64 (Tm.root l)) := by
  cases f with
  | zero => exact h.elim
  | succ f => exact h.1
theorem TreeAt.drew {w : World} {f p : Nat} {l : List Int} (h : TreeAt f w p l) : TreeAt f w.drew p l := h.below (below_drew w) f p l

def Treed (f : Nat) (w : World) (l : List Int) (e : Ending) (w' : World) : Prop := ∃ p, e = .returned (.pointer (some ⟨p, 0, none⟩)) ∧ TreeAt f w' p l ∧ Below w.heap.size w w'

set_option maxHeartbeats 2000000 in
theorem c128 (f : Nat) : ∀ (zs : List Int) (ao : Option Addr) (n cap : Nat) (w : World), zs.length ≤ f → zs.length = n → n ≤ 40 → n ≤ cap → Tm.okAll zs = true → Row w ao zs →
    Calls Try.prog 128 #[.slice ao n cap] w (Treed (f + 1) w zs) := by
  induction f with
  | zero =>
    intro zs ao n cap w hf hn h40 hcap hok hr
    have hz : zs = [] := List.eq_nil_of_length_eq_zero (by omega)
    subst hz
    have hn0 : n = 0 := by simpa using hn.symm
    subst hn0
    clear hr hn hf
    go_enter Try.func128, Try.ntmps128
    go_wp2_with fail
    go_ret
    refine ⟨w.heap.size, rfl, ⟨?_, ?_, fun h => by simp at h⟩, (Below.refl _ _).alloc (Nat.le_refl _) _⟩
    · rw [World.cell?_alloc_new]; rfl
    · rw [World.cell?_alloc_new]; rfl
  | succ f ih =>
    intro zs ao n cap w hf hn h40 hcap hok hr
    by_cases h0 : n = 0
    · subst h0
      have HU := hide (Tm.root_nil hn)
      have HN := hide hn
      clear hr hn hf ih
      go_enter Try.func128, Try.ntmps128
      go_wp2_with fail
      go_ret
      refine ⟨w.heap.size, rfl, ⟨?_, ?_, fun h => by have := unhide HN; omega⟩, (Below.refl _ _).alloc (Nat.le_refl _) _⟩
      · rw [World.cell?_alloc_new, unhide HU]; rfl
      · rw [World.cell?_alloc_new, unhide HN]; rfl
    · obtain ⟨b, off, rfl, hc⟩ := hr.2 (by intro e; subst e; simp at hn; omega)
      have d0 : ((n : Int) == 0) = false := by rw [beq_eq_false_iff_ne]; omega
      by_cases h1 : n = 1
      · subst h1
        have HU := hide (Tm.root_one hn)
        have HN := hide hn
        have hcell := hc 0 (by omega)
        simp only [Nat.add_zero] at hcell
        generalize zs.getD 0 0 = x at *
        clear hr hn hf ih hc
        go_enter Try.func128, Try.ntmps128
        go_wp2_with fail
        go_ret
        refine ⟨w.heap.size, rfl, ⟨?_, ?_, fun h => by have := unhide HN; omega⟩, (Below.refl _ _).alloc (Nat.le_refl _) _⟩
        · rw [World.cell?_alloc_new, unhide HU]; rfl
        · rw [World.cell?_alloc_new, unhide HN]; rfl
      · have d1 : ((n : Int) == 1) = false := by rw [beq_eq_false_iff_ne]; omega
        have hs := Tm.sp_bd (l := zs) (by omega) (by omega)
        have hsi := Tm.sp_int (l := zs) (by omega) (by omega)
        rw [hn] at hsi hs
        have hts := Tm.treSplit_of (n := (n : Int)) (by omega) (by omega)
        rw [hsi] at hts
        have HU := hide (Tm.root_more (l := zs) (by omega) (by omega))
        have HTS := hide hts
        obtain ⟨s1, s2, s3⟩ := hs
        have HL := hide (fun (w' : World) (hr' : Row w' (some ⟨b, off, none⟩) (zs.take (Tm.sp zs))) => ih (zs.take (Tm.sp zs)) (some ⟨b, off, none⟩) (Tm.sp zs) cap w' (by rw [List.length_take]; omega) (by rw [List.length_take]; omega) (by omega) (by omega) (Tm.okAll_take hok _) hr')
        have HR := hide (fun (w' : World) (hr' : Row w' (some ⟨b, off + Tm.sp zs, none⟩) (zs.drop (Tm.sp zs))) => ih (zs.drop (Tm.sp zs)) (some ⟨b, off + Tm.sp zs, none⟩) (n - Tm.sp zs) (cap - Tm.sp zs) w' (by rw [List.length_drop]; omega) (by rw [List.length_drop]; omega) (by omega) (by omega) (Tm.okAll_drop hok _) hr')
        have HRT := hide (hr.take (Tm.sp zs))
        have HRD := hide (hr.drop (Tm.sp zs))
        have HN := hide hn
        have HOL := hide (Tm.root_ok f (zs.take (Tm.sp zs)) (by rw [List.length_take]; omega) (by rw [List.length_take]; omega) (Tm.okAll_take hok _))
        have HOR := hide (Tm.root_ok f (zs.drop (Tm.sp zs)) (by rw [List.length_drop]; omega) (by rw [List.length_drop]; omega) (Tm.okAll_drop hok _))
        have HT : Hid (∀ (w' : World) (p pl pr : Nat), w'.cell? ⟨p, 0, none⟩ = some (.int .i64 (Tm.root zs)) → w'.cell? ⟨p, 1, none⟩ = some (.int .i64 n) → w'.cell? ⟨p, 2, none⟩ = some (.pointer (some ⟨pl, 0, none⟩)) → w'.cell? ⟨p, 3, none⟩ = some (.pointer (some ⟨pr, 0, none⟩)) →
            TreeAt (f + 1) w' pl (zs.take (Tm.sp zs)) → TreeAt (f + 1) w' pr (zs.drop (Tm.sp zs)) → TreeAt (f + 1 + 1) w' p zs) := by
          intro w' p pl pr e0 e1 e2 e3 e4 e5
          exact ⟨e0, by rw [hn]; exact e1, fun _ => ⟨pl, pr, e2, e3, e4, e5⟩⟩
        generalize zs.take (Tm.sp zs) = lt at *
        generalize zs.drop (Tm.sp zs) = rt at *
        generalize Tm.sp zs = s at *
        clear hc hr hn hf ih hsi hts hok
        have k0 : (0 : Int) ≤ (s : Int) := by omega
        have k1 : (s : Int) ≤ (cap : Int) := by omega
        have k2 : (s : Int) ≤ (n : Int) := by omega
        have k3 : (n : Int) ≤ (cap : Int) := by omega
        go_enter Try.func128, Try.ntmps128
        go_wp2_with fail
        refine (c156 _ _).mono ?_
        rintro e w1 ⟨rfl, rfl⟩
        rw [unhide HTS]
        go_wp2_with fail
        have hW0 := below_drew w1
        go_region_held3 (fun w' => Below w1.heap.size w1 w') (assumption) (first | (go_at_call_of 128 (Value.slice (some ⟨b, off, none⟩) s cap); refine (unhide HL _ (by exact (unhide HRT).drew)).mono ?_; rintro e w2 ⟨pl, rfl, ht1, hb1⟩; have hb2 := below_undrew hb1) | (go_at_call 128; refine (unhide HR _ (by exact (unhide HRD).below hb2 (Nat.le_refl _))).mono ?_; rintro e w3 ⟨pr, rfl, ht2, hb3⟩; have hb4 := below_then hb2 hb3; have hb5 := hb4.alloc hb4.size (.cells #[.int .i64 0, .int .i64 n, .pointer (some ⟨pl, 0, none⟩), .pointer (some ⟨pr, 0, none⟩)] 139)))
        have hbA : Below w3.heap.size w3 (w3.alloc (.cells #[.int .i64 0, .int .i64 n, .pointer (some ⟨pl, 0, none⟩), .pointer (some ⟨pr, 0, none⟩)] 139)) := (Below.refl _ _).alloc (Nat.le_refl _) _
        have ht1' := ht1.below hb3 _ _ _
        have a0 : (w3.alloc (.cells #[.int .i64 0, .int .i64 n, .pointer (some ⟨pl, 0, none⟩), .pointer (some ⟨pr, 0, none⟩)] 139)).cell? ⟨w3.heap.size, 0, none⟩ = some (.int .i64 0) := by rw [World.cell?_alloc_new]; rfl
        have a1 : (w3.alloc (.cells #[.int .i64 0, .int .i64 n, .pointer (some ⟨pl, 0, none⟩), .pointer (some ⟨pr, 0, none⟩)] 139)).cell? ⟨w3.heap.size, 1, none⟩ = some (.int .i64 n) := by rw [World.cell?_alloc_new]; rfl
        have a2 : (w3.alloc (.cells #[.int .i64 0, .int .i64 n, .pointer (some ⟨pl, 0, none⟩), .pointer (some ⟨pr, 0, none⟩)] 139)).cell? ⟨w3.heap.size, 2, none⟩ = some (.pointer (some ⟨pl, 0, none⟩)) := by rw [World.cell?_alloc_new]; rfl
        have a3 : (w3.alloc (.cells #[.int .i64 0, .int .i64 n, .pointer (some ⟨pl, 0, none⟩), .pointer (some ⟨pr, 0, none⟩)] 139)).cell? ⟨w3.heap.size, 3, none⟩ = some (.pointer (some ⟨pr, 0, none⟩)) := by rw [World.cell?_alloc_new]; rfl
        have af : (w3.alloc (.cells #[.int .i64 0, .int .i64 n, .pointer (some ⟨pl, 0, none⟩), .pointer (some ⟨pr, 0, none⟩)] 139)).frozen? ⟨w3.heap.size, 0, none⟩ = false := by simp
        have hsz : w3.heap.size < (w3.alloc (.cells #[.int .i64 0, .int .i64 n, .pointer (some ⟨pl, 0, none⟩), .pointer (some ⟨pr, 0, none⟩)] 139)).heap.size := by simp
        have A0 := hide a0
        have A1 := hide a1
        have A2 := hide a2
        have A3 := hide a3
        have AF := hide af
        have HBA := hide hbA
        have HB5 := hide hb5
        have HT1 := hide ht1'
        have HT2 := hide ht2
        have HSZ := hide hsz
        have HBS := hide hb4.size
        clear a0 a1 a2 a3 af hbA hb5 ht1' ht2 hb1 hb2 hb3 hb4 hW0 ht1 hsz
        go_wp2_with fail
        generalize w3.alloc (.cells #[.int .i64 0, .int .i64 n, .pointer (some ⟨pl, 0, none⟩), .pointer (some ⟨pr, 0, none⟩)] 139) = W at *
        refine (c157 _ pl pr _ _ _ (unhide A2) (unhide A3) (cell_below (unhide HBA) (unhide HT1).root) (cell_below (unhide HBA) (unhide HT2).root)).mono ?_
        rintro e w4 ⟨rfl, hb6⟩
        have HB6 := hide hb6
        clear hb6
        go_wp2_with fail
        refine (c158 _ _ _ (unhide HOL) (unhide HOR)).mono ?_
        rintro e w5 ⟨rfl, hb7⟩
        have hb8 := below_then (unhide HB6) hb7
        have c0 := cell_below hb8 (unhide A0)
        have hfr : w5.frozen? ⟨w3.heap.size, 0, none⟩ = false := (hb8.frozen (p := ⟨w3.heap.size, 0, none⟩) (unhide HSZ)).trans (unhide AF)
        rw [← unhide HU]
        have hb9 : Below w3.heap.size w3 (w5.setCell ⟨w3.heap.size, 0, none⟩ (.int .i64 (Tm.root zs))) := (below_then (unhide HBA) hb8).setCell (p := ⟨w3.heap.size, 0, none⟩) (Nat.le_refl _) _
        have o1 : (w5.setCell ⟨w3.heap.size, 0, none⟩ (.int .i64 (Tm.root zs))).cell? ⟨w3.heap.size, 1, none⟩ = w5.cell? ⟨w3.heap.size, 1, none⟩ := World.cell?_setCell_other _ _ _ _ (by simp)
        have o2 : (w5.setCell ⟨w3.heap.size, 0, none⟩ (.int .i64 (Tm.root zs))).cell? ⟨w3.heap.size, 2, none⟩ = w5.cell? ⟨w3.heap.size, 2, none⟩ := World.cell?_setCell_other _ _ _ _ (by simp)
        have o3 : (w5.setCell ⟨w3.heap.size, 0, none⟩ (.int .i64 (Tm.root zs))).cell? ⟨w3.heap.size, 3, none⟩ = w5.cell? ⟨w3.heap.size, 3, none⟩ := World.cell?_setCell_other _ _ _ _ (by simp)
        have HFin := hide (unhide HT (w5.setCell ⟨w3.heap.size, 0, none⟩ (.int .i64 (Tm.root zs))) w3.heap.size pl pr (World.cell?_setCell_same _ _ _ c0) (o1.trans (cell_below hb8 (unhide A1))) (o2.trans (cell_below hb8 (unhide A2))) (o3.trans (cell_below hb8 (unhide A3)))
          ((unhide HT1).below hb9 _ _ _) ((unhide HT2).below hb9 _ _ _))
        have hbE : Below w1.heap.size w1 (w5.setCell ⟨w3.heap.size, 0, none⟩ (.int .i64 (Tm.root zs))) := (below_then (unhide HB5) hb8).setCell (p := ⟨w3.heap.size, 0, none⟩) (unhide HBS) _
        have HBE := hide hbE
        clear hb7 hb8 hb9 o1 o2 o3 hbE
        go_wp2_with fail
        go_ret
        exact ⟨w3.heap.size, rfl, unhide HFin, unhide HBE⟩
end Go.Proofs.Ytjdnengmllamcaa
