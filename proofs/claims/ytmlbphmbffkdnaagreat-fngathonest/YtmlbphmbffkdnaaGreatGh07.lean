/-
  Texts of the proof, what it needs of them: Lste, Roots.
-/
import Derived.Deep.AppendLies
import Derived.Test.YtmlbphmbffkdnaaGreatGh03
import Derived.Test.YtmlbphmbffkdnaaGreatGh06
namespace Go.Proofs.YtmlbphmbffkdnaaGreat
open Go.RowKit
set_option linter.unusedVariables false
set_option maxRecDepth 100000
theorem grow_trans {a b c : World} {row : Option Nat} (h : a.grownBy b row) (k : b.grownBy c row) : a.grownBy c row :=
  ⟨k.os.trans h.os, k.tape.trans h.tape, k.output.trans h.output, Nat.le_trans h.size k.size, fun i hi hr => (k.block i (Nat.lt_of_lt_of_le hi h.size) hr).trans (h.block i hi hr)⟩

/-- the mark of an element -/
def mkE (j : Nat) : Tm.Ent := (4 * (j : Int) + 1, 4 * (j : Int) + 2, 4 * (j : Int) + 3, 4 * (j : Int) + 4)
end Go.Proofs.YtmlbphmbffkdnaaGreat
namespace Go.Proofs.YtmlbphmbffkdnaaGreat
open Go.RowKit
set_option linter.unusedVariables false
set_option maxRecDepth 100000

/-- a row as a value -/
abbrev rowV (x0 x1 : Int) (x2 : Bool) : Value := .agg #[.int .i64 x0, .int .i64 x1, .bool x2]
theorem putR {tt : TypeId} {wr : World} {base g cap n : Nat} {ys : List Tm.Rw} {k : Nat} (hown : wr.ownsRow base tt 3 (.slice (some ⟨g, 0, none⟩) n cap) n (ys.flatMap rCells)) (hl : ys.length = n) (hk : k < n) (x0 x1 : Int) (x2 : Bool) :
    (((wr.setCell ⟨g, k * 3, none⟩ (.int .i64 x0)).setCell ⟨g, k * 3 + 1, none⟩ (.int .i64 x1)).setCell ⟨g, k * 3 + 2, none⟩ (.bool x2)).ownsRow base tt 3 (.slice (some ⟨g, 0, none⟩) n cap) n ((ys.set k (x0, x1, x2)).flatMap rCells) ∧ wr.grownBy (((wr.setCell ⟨g, k * 3, none⟩ (.int .i64 x0)).setCell ⟨g, k * 3 + 1, none⟩ (.int .i64 x1)).setCell ⟨g, k * 3 + 2, none⟩ (.bool x2)) (some g) ∧
    (∃ v, wr.cell? ⟨g, k * 3, none⟩ = some v) ∧ (∃ v, wr.cell? ⟨g, k * 3 + 1, none⟩ = some v) ∧ (∃ v, wr.cell? ⟨g, k * 3 + 2, none⟩ = some v) ∧  (∀ j, wr.frozen? ⟨g, j, none⟩ = false) := by
  have hlen : (ys.flatMap rCells).length = n * 3 := by rw [flat_len rCells 3 rCells_len, hl]
  have hc : ∀ i, i < 3 → ∃ v, wr.cell? ⟨g, k * 3 + i, none⟩ = some v := by
    intro i hi
    have h1 : k * 3 + i < n * 3 := by omega
    rw [hown.cellAt (k * 3 + i) h1]
    exact ⟨_, List.getElem?_eq_getElem (by rw [hlen]; exact h1)⟩

  have s0 := hown.stored (k * 3) (.int .i64 x0)
  have s1 := s0.1.stored (k * 3 + 1) (.int .i64 x1)
  have s2 := s1.1.stored (k * 3 + 2) (.bool x2)
  refine ⟨?_, grow_trans (grow_trans (s0.2) s1.2) s2.2, hc 0 (by decide), hc 1 (by decide), hc 2 (by decide),  fun j => hown.frozenAt j⟩
  have e := flat_set rCells 3 rCells_len ys k (x0, x1, x2) (by omega)
  rw [← e]
  exact s2.1

/-- the mark of an element -/
def mkR (j : Nat) : Tm.Rw := (3 * (j : Int) + 1, 3 * (j : Int) + 1 + 1, (3 * (j : Int) + 1 + 1 + 1) % 3 == 0)
end Go.Proofs.YtmlbphmbffkdnaaGreat
namespace Go.Proofs.YtmlbphmbffkdnaaGreat
open Go.RowKit
set_option linter.unusedVariables false

set_option maxHeartbeats 1000000 in
theorem c53 (f : Nat) : ∀ (zs : List Int) (ao : Option Addr) (n cap : Nat) (w : World), zs.length ≤ f → zs.length = n → n ≤ 40 → n ≤ cap → Row w ao zs →
    Calls Tryz.prog 53 #[.slice ao n cap] w fun e w' => e = .returned (.int .i64 (Tm.root zs)) ∧ ∃ q, w' = w.drewN q := by
  induction f with
  | zero =>
    intro zs ao n cap w hf hn h40 hcap hr
    have hz : zs = [] := List.eq_nil_of_length_eq_zero (by omega)
    subst hz
    have hn0 : n = 0 := by simpa using hn.symm
    subst hn0
    have HU := hide (Tm.root_nil (l := []) rfl)
    clear hr hn hf
    go_enter Tryz.func53, Tryz.ntmps53
    go_wp2_with fail
    go_ret
    exact ⟨ret_int (unhide HU).symm, 0, rfl⟩
  | succ f ih =>
    intro zs ao n cap w hf hn h40 hcap hr
    by_cases h0 : n = 0
    · subst h0
      have HU := hide (Tm.root_nil hn)
      clear hr hn hf ih
      go_enter Tryz.func53, Tryz.ntmps53
      go_wp2_with fail
      go_ret
      exact ⟨ret_int (unhide HU).symm, 0, rfl⟩
    · obtain ⟨b, off, rfl, hc⟩ := hr.2 (by intro e; subst e; simp at hn; omega)
      have d0 : ((n : Int) == 0) = false := by rw [beq_eq_false_iff_ne]; omega
      by_cases h1 : n = 1
      · subst h1
        have HU := hide (Tm.root_one hn)
        have hcell := hc 0 (by omega)
        simp only [Nat.add_zero] at hcell
        generalize zs.getD 0 0 = x at *
        clear hr hn hf ih hc
        go_enter Tryz.func53, Tryz.ntmps53
        go_wp2_with fail
        go_ret
        exact ⟨ret_int (unhide HU).symm, 0, rfl⟩
      · have d1 : ((n : Int) == 1) = false := by rw [beq_eq_false_iff_ne]; omega
        have hs := Tm.sp_bd (l := zs) (by omega) (by omega)
        have hsi := Tm.sp_int (l := zs) (by omega) (by omega)
        rw [hn] at hsi hs
        have hts := Tm.treSplit_of (n := (n : Int)) (by omega) (by omega)
        rw [hsi] at hts
        have HU := hide (Tm.root_more (l := zs) (by omega) (by omega))
        have HTS := hide hts
        obtain ⟨s1, s2, s3⟩ := hs
        have HL := hide (fun (w' : World) (hr' : Row w' (some ⟨b, off, none⟩) (zs.take (Tm.sp zs))) => ih (zs.take (Tm.sp zs)) (some ⟨b, off, none⟩) (Tm.sp zs) cap w' (by rw [List.length_take]; omega) (by rw [List.length_take]; omega) (by omega) (by omega) hr')
        have HR := hide (fun (w' : World) (hr' : Row w' (some ⟨b, off + Tm.sp zs, none⟩) (zs.drop (Tm.sp zs))) => ih (zs.drop (Tm.sp zs)) (some ⟨b, off + Tm.sp zs, none⟩) (n - Tm.sp zs) (cap - Tm.sp zs) w' (by rw [List.length_drop]; omega) (by rw [List.length_drop]; omega) (by omega) (by omega) hr')
        have HRT := hide (hr.take (Tm.sp zs))
        have HRD := hide (hr.drop (Tm.sp zs))
        generalize zs.take (Tm.sp zs) = lt at *
        generalize zs.drop (Tm.sp zs) = rt at *
        generalize Tm.sp zs = s at *
        clear hc hr hn hf ih hsi hts
        go_enter Tryz.func53, Tryz.ntmps53
        go_wp2_with fail
        refine (c85 _ _).mono ?_
        rintro e w1 ⟨rfl, rfl⟩
        rw [unhide HTS]
        go_wp2_with fail
        go_quiet ((first | (go_at_call_of 53 (Value.slice (some ⟨b, off, none⟩) s cap); exact Calls.quiet_of (unhide HL _ (by exact (unhide HRT).drewN _))) | (go_at_call 86; exact Calls.quiet_of_same (c86 _ _ _)) | (go_at_call 53; exact Calls.quiet_of (unhide HR _ (by exact (unhide HRD).drewN _)))))
        go_wp2_with fail
        go_ret
        exact ⟨ret_int (unhide HU).symm, _, rfl⟩
end Go.Proofs.YtmlbphmbffkdnaaGreat
namespace Go.Proofs.YtmlbphmbffkdnaaGreat
open Go.RowKit
set_option linter.unusedVariables false

set_option maxHeartbeats 1000000 in
theorem c96 (p pl pr : Nat) (x y : Int) (w : World) (h2 : w.cell? ⟨p, 2, none⟩ = some (.pointer (some ⟨pl, 0, none⟩))) (h3 : w.cell? ⟨p, 3, none⟩ = some (.pointer (some ⟨pr, 0, none⟩)))
    (hx : w.cell? ⟨pl, 0, none⟩ = some (.int .i64 x)) (hy : w.cell? ⟨pr, 0, none⟩ = some (.int .i64 y)) :
    Calls Tryz.prog 96 #[.pointer (some ⟨p, 0, none⟩)] w fun e w' => e = .returned (.agg #[.int .i64 x, .int .i64 y]) ∧ Below w.heap.size w w' := by
  have hbW : Below w.heap.size w (w.alloc (.cells #[.int .i64 0, .int .i64 0] 116)) := (Below.refl _ _).alloc (Nat.le_refl _) _
  have g2 := cell_below hbW h2
  have g3 := cell_below hbW h3
  have gx := cell_below hbW hx
  have gy := cell_below hbW hy
  clear h2 h3 hx hy
  have HB := hide hbW
  clear hbW
  go_enter Tryz.func96, Tryz.ntmps96
  go_wp2_with fail
  go_region
  go_wp2_with fail
  refine bodyPost_ret (v := .agg #[.int .i64 x, .int .i64 y]) (by simp [results, Tryz.results96, go_sem]) rfl ⟨rfl, ?_⟩
  exact ((Below.refl _ _).alloc (Nat.le_refl _) _).drew

/-- A tree of leaves in memory, as the program builds it: its root, how many leaves, and, of two or more, both parts. -/
def TreeAt : Nat → World → Nat → List Int → Prop
  | 0, _, _, _ => False
  | f + 1, w, p, l => w.cell? ⟨p, 0, none⟩ = some (.int .i64 (Tm.root l)) ∧ w.cell? ⟨p, 1, none⟩ = some (.int .i64 l.length) ∧
      (2 ≤ l.length → ∃ pl pr, w.cell? ⟨p, 2, none⟩ = some (.pointer (some ⟨pl, 0, none⟩)) ∧ w.cell? ⟨p, 3, none⟩ = some (.pointer (some ⟨pr, 0, none⟩)) ∧ TreeAt f w pl (l.take (Tm.sp l)) ∧ TreeAt f w pr (l.drop (Tm.sp l)))
theorem TreeAt.below {w w' : World} (hb : Below w.heap.size w w') : ∀ (f p : Nat) (l : List Int), TreeAt f w p l → TreeAt f w' p l := by
  intro f
  induction f with
  | zero => intro p l h; exact h
  | succ f ih =>
    intro p l h
    obtain ⟨h0, h1, h2⟩ := h
    refine ⟨cell_below hb h0, cell_below hb h1, fun hl => ?_⟩
    obtain ⟨pl, pr, h3, h4, h5, h6⟩ := h2 hl
    exact ⟨pl, pr, cell_below hb h3, cell_below hb h4, ih _ _ h5, ih _ _ h6⟩
theorem TreeAt.root {f : Nat} {w : World} {p : Nat} {l : List Int} (h : TreeAt f w p l) : w.cell? ⟨p, 0, none⟩ = some (.int .i64 (Tm.root l)) := by
  cases f with
  | zero => exact h.elim
  | succ f => exact h.1
theorem TreeAt.drew {w : World} {f p : Nat} {l : List Int} (h : TreeAt f w p l) : TreeAt f w.drew p l := h.below (below_drew w) f p l

def Treed (f : Nat) (w : World) (l : List Int) (e : Ending) (w' : World) : Prop := ∃ p, e = .returned (.pointer (some ⟨p, 0, none⟩)) ∧ TreeAt f w' p l ∧ Below w.heap.size w w'

set_option maxHeartbeats 2000000 in
theorem c64 (f : Nat) : ∀ (zs : List Int) (ao : Option Addr) (n cap : Nat) (w : World), zs.length ≤ f → zs.length = n → n ≤ 40 → n ≤ cap → Tm.okAll zs = true → Row w ao zs →
    Calls Tryz.prog 64 #[.slice ao n cap] w (Treed (f + 1) w zs) := by
  induction f with
  | zero =>
    intro zs ao n cap w hf hn h40 hcap hok hr
    have hz : zs = [] := List.eq_nil_of_length_eq_zero (by omega)
    subst hz
    have hn0 : n = 0 := by simpa using hn.symm
    subst hn0
    clear hr hn hf
    go_enter Tryz.func64, Tryz.ntmps64
    go_wp2_with fail
    go_ret
    refine ⟨w.heap.size, rfl, ⟨?_, ?_, fun h => by simp at h⟩, (Below.refl _ _).alloc (Nat.le_refl _) _⟩
    · rw [World.cell?_alloc_new]; rfl
    · rw [World.cell?_alloc_new]; rfl
  | succ f ih =>
    intro zs ao n cap w hf hn h40 hcap hok hr
    by_cases h0 : n = 0
    · subst h0
      have HU := hide (Tm.root_nil hn)
      have HN := hide hn
      clear hr hn hf ih
      go_enter Tryz.func64, Tryz.ntmps64
      go_wp2_with fail
      go_ret
      refine ⟨w.heap.size, rfl, ⟨?_, ?_, fun h => by have := unhide HN; omega⟩, (Below.refl _ _).alloc (Nat.le_refl _) _⟩
      · rw [World.cell?_alloc_new, unhide HU]; rfl
      · rw [World.cell?_alloc_new, unhide HN]; rfl
    · obtain ⟨b, off, rfl, hc⟩ := hr.2 (by intro e; subst e; simp at hn; omega)
      have d0 : ((n : Int) == 0) = false := by rw [beq_eq_false_iff_ne]; omega
      by_cases h1 : n = 1
      · subst h1
        have HU := hide (Tm.root_one hn)
        have HN := hide hn
        have hcell := hc 0 (by omega)
        simp only [Nat.add_zero] at hcell
        generalize zs.getD 0 0 = x at *
        clear hr hn hf ih hc
        go_enter Tryz.func64, Tryz.ntmps64
        go_wp2_with fail
        go_ret
        refine ⟨w.heap.size, rfl, ⟨?_, ?_, fun h => by have := unhide HN; omega⟩, (Below.refl _ _).alloc (Nat.le_refl _) _⟩
        · rw [World.cell?_alloc_new, unhide HU]; rfl
        · rw [World.cell?_alloc_new, unhide HN]; rfl
      · have d1 : ((n : Int) == 1) = false := by rw [beq_eq_false_iff_ne]; omega
        have hs := Tm.sp_bd (l := zs) (by omega) (by omega)
        have hsi := Tm.sp_int (l := zs) (by omega) (by omega)
        rw [hn] at hsi hs
        have hts := Tm.treSplit_of (n := (n : Int)) (by omega) (by omega)
        rw [hsi] at hts
        have HU := hide (Tm.root_more (l := zs) (by omega) (by omega))
        have HTS := hide hts
        obtain ⟨s1, s2, s3⟩ := hs
        have HL := hide (fun (w' : World) (hr' : Row w' (some ⟨b, off, none⟩) (zs.take (Tm.sp zs))) => ih (zs.take (Tm.sp zs)) (some ⟨b, off, none⟩) (Tm.sp zs) cap w' (by rw [List.length_take]; omega) (by rw [List.length_take]; omega) (by omega) (by omega) (Tm.okAll_take hok _) hr')
        have HR := hide (fun (w' : World) (hr' : Row w' (some ⟨b, off + Tm.sp zs, none⟩) (zs.drop (Tm.sp zs))) => ih (zs.drop (Tm.sp zs)) (some ⟨b, off + Tm.sp zs, none⟩) (n - Tm.sp zs) (cap - Tm.sp zs) w' (by rw [List.length_drop]; omega) (by rw [List.length_drop]; omega) (by omega) (by omega) (Tm.okAll_drop hok _) hr')
        have HRT := hide (hr.take (Tm.sp zs))
        have HRD := hide (hr.drop (Tm.sp zs))
        have HN := hide hn
        have HOL := hide (Tm.root_ok f (zs.take (Tm.sp zs)) (by rw [List.length_take]; omega) (by rw [List.length_take]; omega) (Tm.okAll_take hok _))
        have HOR := hide (Tm.root_ok f (zs.drop (Tm.sp zs)) (by rw [List.length_drop]; omega) (by rw [List.length_drop]; omega) (Tm.okAll_drop hok _))
        have HT : Hid (∀ (w' : World) (p pl pr : Nat), w'.cell? ⟨p, 0, none⟩ = some (.int .i64 (Tm.root zs)) → w'.cell? ⟨p, 1, none⟩ = some (.int .i64 n) → w'.cell? ⟨p, 2, none⟩ = some (.pointer (some ⟨pl, 0, none⟩)) → w'.cell? ⟨p, 3, none⟩ = some (.pointer (some ⟨pr, 0, none⟩)) →
            TreeAt (f + 1) w' pl (zs.take (Tm.sp zs)) → TreeAt (f + 1) w' pr (zs.drop (Tm.sp zs)) → TreeAt (f + 1 + 1) w' p zs) := by
          intro w' p pl pr e0 e1 e2 e3 e4 e5
          exact ⟨e0, by rw [hn]; exact e1, fun _ => ⟨pl, pr, e2, e3, e4, e5⟩⟩
        generalize zs.take (Tm.sp zs) = lt at *
        generalize zs.drop (Tm.sp zs) = rt at *
        generalize Tm.sp zs = s at *
        clear hc hr hn hf ih hsi hts hok
        have k0 : (0 : Int) ≤ (s : Int) := by omega
        have k1 : (s : Int) ≤ (cap : Int) := by omega
        have k2 : (s : Int) ≤ (n : Int) := by omega
        have k3 : (n : Int) ≤ (cap : Int) := by omega
        go_enter Tryz.func64, Tryz.ntmps64
        go_wp2_with fail
        refine (c95 _ _).mono ?_
        rintro e w1 ⟨rfl, rfl⟩
        rw [unhide HTS]
        go_wp2_with fail
        have hW0 := below_drew w1
        go_region_held3 (fun w' => Below w1.heap.size w1 w') (assumption) (first | (go_at_call_of 64 (Value.slice (some ⟨b, off, none⟩) s cap); refine (unhide HL _ (by exact (unhide HRT).drew)).mono ?_; rintro e w2 ⟨pl, rfl, ht1, hb1⟩; have hb2 := below_undrew hb1) | (go_at_call 64; refine (unhide HR _ (by exact (unhide HRD).below hb2 (Nat.le_refl _))).mono ?_; rintro e w3 ⟨pr, rfl, ht2, hb3⟩; have hb4 := below_then hb2 hb3; have hb5 := hb4.alloc hb4.size (.cells #[.int .i64 0, .int .i64 n, .pointer (some ⟨pl, 0, none⟩), .pointer (some ⟨pr, 0, none⟩)] 108)))
        have hbA : Below w3.heap.size w3 (w3.alloc (.cells #[.int .i64 0, .int .i64 n, .pointer (some ⟨pl, 0, none⟩), .pointer (some ⟨pr, 0, none⟩)] 108)) := (Below.refl _ _).alloc (Nat.le_refl _) _
        have ht1' := ht1.below hb3 _ _ _
        have a0 : (w3.alloc (.cells #[.int .i64 0, .int .i64 n, .pointer (some ⟨pl, 0, none⟩), .pointer (some ⟨pr, 0, none⟩)] 108)).cell? ⟨w3.heap.size, 0, none⟩ = some (.int .i64 0) := by rw [World.cell?_alloc_new]; rfl
        have a1 : (w3.alloc (.cells #[.int .i64 0, .int .i64 n, .pointer (some ⟨pl, 0, none⟩), .pointer (some ⟨pr, 0, none⟩)] 108)).cell? ⟨w3.heap.size, 1, none⟩ = some (.int .i64 n) := by rw [World.cell?_alloc_new]; rfl
        have a2 : (w3.alloc (.cells #[.int .i64 0, .int .i64 n, .pointer (some ⟨pl, 0, none⟩), .pointer (some ⟨pr, 0, none⟩)] 108)).cell? ⟨w3.heap.size, 2, none⟩ = some (.pointer (some ⟨pl, 0, none⟩)) := by rw [World.cell?_alloc_new]; rfl
        have a3 : (w3.alloc (.cells #[.int .i64 0, .int .i64 n, .pointer (some ⟨pl, 0, none⟩), .pointer (some ⟨pr, 0, none⟩)] 108)).cell? ⟨w3.heap.size, 3, none⟩ = some (.pointer (some ⟨pr, 0, none⟩)) := by rw [World.cell?_alloc_new]; rfl
        have af : (w3.alloc (.cells #[.int .i64 0, .int .i64 n, .pointer (some ⟨pl, 0, none⟩), .pointer (some ⟨pr, 0, none⟩)] 108)).frozen? ⟨w3.heap.size, 0, none⟩ = false := by simp
        have hsz : w3.heap.size < (w3.alloc (.cells #[.int .i64 0, .int .i64 n, .pointer (some ⟨pl, 0, none⟩), .pointer (some ⟨pr, 0, none⟩)] 108)).heap.size := by simp
        have A0 := hide a0
        have A1 := hide a1
        have A2 := hide a2
        have A3 := hide a3
        have AF := hide af
        have HBA := hide hbA
        have HB5 := hide hb5
        have HT1 := hide ht1'
        have HT2 := hide ht2
        have HSZ := hide hsz
        have HBS := hide hb4.size
        clear a0 a1 a2 a3 af hbA hb5 ht1' ht2 hb1 hb2 hb3 hb4 hW0 ht1 hsz
        go_wp2_with fail
        generalize w3.alloc (.cells #[.int .i64 0, .int .i64 n, .pointer (some ⟨pl, 0, none⟩), .pointer (some ⟨pr, 0, none⟩)] 108) = W at *
        refine (c96 _ pl pr _ _ _ (unhide A2) (unhide A3) (cell_below (unhide HBA) (unhide HT1).root) (cell_below (unhide HBA) (unhide HT2).root)).mono ?_
        rintro e w4 ⟨rfl, hb6⟩
        have HB6 := hide hb6
        clear hb6
        go_wp2_with fail
        refine (c97 _ _ _ (unhide HOL) (unhide HOR)).mono ?_
        rintro e w5 ⟨rfl, hb7⟩
        have hb8 := below_then (unhide HB6) hb7
        have c0 := cell_below hb8 (unhide A0)
        have hfr : w5.frozen? ⟨w3.heap.size, 0, none⟩ = false := (hb8.frozen (p := ⟨w3.heap.size, 0, none⟩) (unhide HSZ)).trans (unhide AF)
        rw [← unhide HU]
        have hb9 : Below w3.heap.size w3 (w5.setCell ⟨w3.heap.size, 0, none⟩ (.int .i64 (Tm.root zs))) := (below_then (unhide HBA) hb8).setCell (p := ⟨w3.heap.size, 0, none⟩) (Nat.le_refl _) _
        have o1 : (w5.setCell ⟨w3.heap.size, 0, none⟩ (.int .i64 (Tm.root zs))).cell? ⟨w3.heap.size, 1, none⟩ = w5.cell? ⟨w3.heap.size, 1, none⟩ := World.cell?_setCell_other _ _ _ _ (by simp)
        have o2 : (w5.setCell ⟨w3.heap.size, 0, none⟩ (.int .i64 (Tm.root zs))).cell? ⟨w3.heap.size, 2, none⟩ = w5.cell? ⟨w3.heap.size, 2, none⟩ := World.cell?_setCell_other _ _ _ _ (by simp)
        have o3 : (w5.setCell ⟨w3.heap.size, 0, none⟩ (.int .i64 (Tm.root zs))).cell? ⟨w3.heap.size, 3, none⟩ = w5.cell? ⟨w3.heap.size, 3, none⟩ := World.cell?_setCell_other _ _ _ _ (by simp)
        have HFin := hide (unhide HT (w5.setCell ⟨w3.heap.size, 0, none⟩ (.int .i64 (Tm.root zs))) w3.heap.size pl pr (World.cell?_setCell_same _ _ _ c0) (o1.trans (cell_below hb8 (unhide A1))) (o2.trans (cell_below hb8 (unhide A2))) (o3.trans (cell_below hb8 (unhide A3)))
          ((unhide HT1).below hb9 _ _ _) ((unhide HT2).below hb9 _ _ _))
        have hbE : Below w1.heap.size w1 (w5.setCell ⟨w3.heap.size, 0, none⟩ (.int .i64 (Tm.root zs))) := (below_then (unhide HB5) hb8).setCell (p := ⟨w3.heap.size, 0, none⟩) (unhide HBS) _
        have HBE := hide hbE
        clear hb7 hb8 hb9 o1 o2 o3 hbE
        go_wp2_with fail
        go_ret
        exact ⟨w3.heap.size, rfl, unhide HFin, unhide HBE⟩
end Go.Proofs.YtmlbphmbffkdnaaGreat
namespace Go.Proofs.YtmlbphmbffkdnaaGreat
open Go.RowKit
set_option linter.unusedVariables false

set_option maxHeartbeats 1000000 in
theorem c50 (zs : List Int) (ao : Option Addr) (n cap : Nat) (w : World) (hn : zs.length = n) (hcap : n ≤ cap) (hb : n ≤ 1048576) (hr : Row w ao zs) :
    Calls Tryz.prog 50 #[.slice ao n cap] w fun e w' => e = .returned (.int .i64 (Tm.treRoot zs)) ∧ Below w.heap.size w w' := by
  have HR := hide hr
  have HN := hide hn
  clear hr hn
  rcases ho : Tm.treOk zs with _ | _
  · have HU : Hid (Tm.treRoot zs = 0) := by unfold Hid Tm.treRoot; rw [ho]; rfl
    go_enter Tryz.func50, Tryz.ntmps50
    go_wp2_with (go_at_call 63; refine (c63 zs _ _ _ _ (unhide HN) (by omega) (unhide HR)).mono ?_; rintro e w' ⟨rfl, rfl⟩)
    go_ret
    exact ⟨ret_int (unhide HU).symm, Below.refl _ _⟩
  · have HU : Hid (Tm.treRoot zs = Tm.root zs) := by unfold Hid Tm.treRoot; rw [ho]; rfl
    have hl := (treOk_len ho).1
    have HA := hide (treOk_len ho).2
    rw [unhide HN] at hl
    go_enter Tryz.func50, Tryz.ntmps50
    go_wp2_with (go_at_call 63; refine (c63 zs _ _ _ _ (unhide HN) (by omega) (unhide HR)).mono ?_; rintro e w' ⟨rfl, rfl⟩)
    refine (c64 n zs _ _ _ _ (by rw [unhide HN]; exact Nat.le_refl _) (unhide HN) hl hcap (unhide HA) (unhide HR)).mono ?_
    rintro e w1 ⟨p, rfl, ht, hb1⟩
    have hc := ht.root
    have HB := hide hb1
    clear ht hb1
    go_wp2_with fail
    go_ret
    exact ⟨ret_int (unhide HU).symm, unhide HB⟩

theorem treRoot_of {l : List Int} (h1 : l.length ≤ 40) (h2 : Tm.okAll l = true) : Tm.treRoot l = Tm.root l := by
  unfold Tm.treRoot Tm.treOk; rw [h2, decide_eq_true h1]; rfl

end Go.Proofs.YtmlbphmbffkdnaaGreat
namespace Go.Proofs.YtmlbphmbffkdnaaGreat
open Go.RowKit
set_option linter.unusedVariables false

theorem grown_of_below {w w' : World} (h : Below w.heap.size w w') : w.grownBy w' none := ⟨h.os, h.tape, h.output, h.size, fun k hk _ => h.block k hk⟩
theorem Own.below {w w' : World} {base : Nat} {v : Value} {zs : List Int} (h : Own w base v zs) (hb : Below w.heap.size w w') : Own w' base v zs := by
  refine ⟨h.1, h.2.kept (grown_of_below hb) ?_⟩
  cases hv : v.ownBlock with
  | none => exact Or.inl rfl
  | some b => exact Or.inr (by simp)
theorem c53b (zs : List Int) (ao : Option Addr) (n cap : Nat) (w : World) (hn : zs.length = n) (h40 : n ≤ 40) (hcap : n ≤ cap) (hr : Row w ao zs) :
    Calls Tryz.prog 53 #[.slice ao n cap] w fun e w' => e = .returned (.int .i64 (Tm.root zs)) ∧ Below w.heap.size w w' := by
  refine (c53 n zs ao n cap w (by omega) hn h40 hcap hr).mono ?_
  rintro e w1 ⟨rfl, q, rfl⟩
  exact ⟨rfl, below_drewN (Below.refl _ _) q⟩

theorem wrap_sub {x : Int} (h1 : -9223372036854775808 ≤ x) (h2 : x ≤ 9223372036854775807) : IntKind.i64.wrap x = x := by
  simp [IntKind.wrap, IntKind.bits, IntKind.signed]; omega
/-- a new list that is told back: it lies in memory of the call's own -/
def Told (w : World) (zs : List Int) (e : Ending) (w' : World) : Prop := ∃ v, e = .returned v ∧ Own w' w.heap.size v zs ∧ Below w.heap.size w w'

theorem ok_fits {x : Int} (h : Tm.okB x = true) : -9223372036854775808 ≤ x ∧ x ≤ 9223372036854775807 := by have := (Tm.okB_iff x).1 h; omega
theorem own_fin {w w1 w2 : World} {v : Value} {zs : List Int} {x : Int} {g cap : Nat} {o : Obj} (h0 : Below w.heap.size w w1) (ho : Own w1 w.heap.size v zs) (hx : -9223372036854775808 ≤ x ∧ x ≤ 9223372036854775807)
    (hown : w2.ownsRow w.heap.size 3 1 (.slice (some ⟨g, 0, none⟩) (zs.length + 1) cap) (zs.length + 1) (zs.map (Value.int .i64) ++ [.int .i64 x])) (hg : (w1.alloc o).grownBy w2 v.ownBlock) :
    Own w2 w.heap.size (.slice (some ⟨g, 0, none⟩) (zs.length + 1) cap) (zs ++ [x]) ∧ Below w.heap.size w w2 :=
  ⟨own_snoc ho.1 hx hown, (h0.alloc h0.size o).grown hg (by have := h0.size; simp; omega) (fun k hk => own_block ho k hk)⟩

set_option maxRecDepth 8000 in
set_option maxHeartbeats 800000 in
theorem c74 (f : Nat) : ∀ (zs : List Int) (i : Nat) (ao : Option Addr) (n cap : Nat) (w : World), zs.length ≤ f → zs.length = n → n ≤ 40 → n ≤ cap → i < n → Tm.okAll zs = true → Row w ao zs →
    Calls Tryz.prog 74 #[.slice ao n cap, .int .i64 i] w (Told w (Tm.prf zs i)) := by
  induction f with
  | zero => intro zs i ao n cap w hf hn h40 hcap hi hok hr; omega
  | succ f ih =>
    intro zs i ao n cap w hf hn h40 hcap hi hok hr
    by_cases h1 : n < 2
    · have HU := hide (Tm.prf_one (l := zs) (i := i) (by omega))
      have HE := hide (own_empty w w.heap.size (Nat.le_refl _))
      clear hr hn hf ih
      go_enter Tryz.func74, Tryz.ntmps74
      go_wp2_with fail
      go_ret
      exact ⟨_, rfl, by rw [unhide HU]; exact unhide HE, (Below.refl _ _).alloc (Nat.le_refl _) _⟩
    · obtain ⟨b, off, rfl, hc⟩ := hr.2 (by intro e; subst e; simp at hn; omega)
      have hs := Tm.sp_bd (l := zs) (by omega) (by omega)
      have hsi := Tm.sp_int (l := zs) (by omega) (by omega)
      rw [hn] at hsi hs
      have hts := Tm.treSplit_of (n := (n : Int)) (by omega) (by omega)
      rw [hsi] at hts
      have HTS := hide hts
      obtain ⟨s1, s2, s3⟩ := hs
      have HRT := hide (hr.take (Tm.sp zs))
      have HRD := hide (hr.drop (Tm.sp zs))
      have HLT := hide (show (zs.take (Tm.sp zs)).length = Tm.sp zs by rw [List.length_take]; omega)
      have HLD := hide (show (zs.drop (Tm.sp zs)).length = n - Tm.sp zs by rw [List.length_drop]; omega)
      obtain ⟨i0, hi0, hz0, hz1, hz2⟩ := info_parts Tryz.info3
      by_cases hil : i < Tm.sp zs
      · have HU := hide (Tm.prf_left (l := zs) (i := i) (by omega) (by omega) hil)
        have HP := hide (fun (w' : World) (hr' : Row w' (some ⟨b, off, none⟩) (zs.take (Tm.sp zs))) => ih (zs.take (Tm.sp zs)) i (some ⟨b, off, none⟩) (Tm.sp zs) cap w' (by rw [List.length_take]; omega) (by rw [List.length_take]; omega) (by omega) (by omega) hil (Tm.okAll_take hok _) hr')
        have HX := hide (ok_fits (Tm.root_ok _ (zs.drop (Tm.sp zs)) (Nat.le_refl _) (by rw [List.length_drop]; omega) (Tm.okAll_drop hok _)))
        have hpl := Tm.prf_len6 (l := zs.take (Tm.sp zs)) i (by rw [List.length_take]; omega)
        generalize zs.take (Tm.sp zs) = lt at *
        generalize zs.drop (Tm.sp zs) = rt at *
        generalize Tm.sp zs = s at *
        clear hc hr hn hf ih hsi hts hok
        have k0 : (0 : Int) ≤ (s : Int) := by omega
        have k1 : (s : Int) ≤ (cap : Int) := by omega
        have k2 : (s : Int) ≤ (n : Int) := by omega
        have k3 : (n : Int) ≤ (cap : Int) := by omega
        have k4 : (i : Int) < (s : Int) := by omega
        go_enter Tryz.func74, Tryz.ntmps74
        go_wp2_with fail
        refine (c85 _ _).mono ?_
        rintro e w1 ⟨rfl, rfl⟩
        rw [unhide HTS]
        go_wp2_with fail
        have hW0 := below_drew w1
        go_region_held3 (fun w' => Below w1.heap.size w1 w') (assumption) (first | (go_at_call 74; refine (unhide HP _ (by exact (unhide HRT).drew)).mono ?_; rintro e w2 ⟨v, rfl, ho1, hb1⟩; have hb2 := below_undrew hb1) | (go_at_call 53; refine (c53b rt _ _ _ _ (unhide HLD) (by omega) (by omega) (by exact (unhide HRD).below hb2 (Nat.le_refl _))).mono ?_; rintro e w3 ⟨rfl, hb3⟩; have ho3 := ho1.below hb3; have hb4 := below_then hb2 hb3; have hb5 := hb4.alloc hb4.size (.cells #[.int .i64 (Tm.root rt)] 3)) | (refine step_append_lies _ rfl _ _ 25 rfl w1.heap.size 3 i0 (.int .i64 0) 1 8 Tryz.underlying25 hi0 hz0 hz1 hz2 rfl (by decide) _ _ _ rfl (ho3.2.alloc _) ⟨w3.heap.size, 0, none⟩ 1 1 [.int .i64 (Tm.root rt)] rfl rfl (cell_one_new _ _ _) (by simp [Value.oneCell']) (by decide) (by unfold maxLen; omega) (by omega) hb5.size _ rfl ?_; intro g cp w4 hown4 hgrow4 hat4 hlt4; have hfin := own_fin hb4 ho3 (unhide HX) hown4 hgrow4; have hb6 := hfin.2))
        have HF := hide hfin
        clear hfin hb1 hb2 hb3 hb4 hb5 hb6 ho1 ho3 hown4 hgrow4 hW0
        go_wp2_with fail
        go_ret
        exact ⟨_, rfl, by rw [unhide HU]; exact (unhide HF).1, (unhide HF).2⟩
      · have HU := hide (Tm.prf_right (l := zs) (i := i) (by omega) (by omega) hil)
        have HP : Hid (∀ (w' : World) (j : Int), j = ((i - Tm.sp zs : Nat) : Int) → Row w' (some ⟨b, off + Tm.sp zs, none⟩) (zs.drop (Tm.sp zs)) → Calls Tryz.prog 74 #[.slice (some ⟨b, off + Tm.sp zs, none⟩) (n - Tm.sp zs) (cap - Tm.sp zs), .int .i64 j] w' (Told w' (Tm.prf (zs.drop (Tm.sp zs)) (i - Tm.sp zs)))) := by
          intro w' j hj hr'
          subst hj
          exact ih (zs.drop (Tm.sp zs)) (i - Tm.sp zs) (some ⟨b, off + Tm.sp zs, none⟩) (n - Tm.sp zs) (cap - Tm.sp zs) w' (by rw [List.length_drop]; omega) (by rw [List.length_drop]; omega) (by omega) (by omega) (by omega) (Tm.okAll_drop hok _) hr'
        have HX := hide (ok_fits (Tm.root_ok _ (zs.take (Tm.sp zs)) (Nat.le_refl _) (by rw [List.length_take]; omega) (Tm.okAll_take hok _)))
        have hpl := Tm.prf_len6 (l := zs.drop (Tm.sp zs)) (i - Tm.sp zs) (by rw [List.length_drop]; omega)
        generalize zs.take (Tm.sp zs) = lt at *
        generalize zs.drop (Tm.sp zs) = rt at *
        generalize Tm.sp zs = s at *
        clear hc hr hn hf ih hsi hts hok
        have k0 : (0 : Int) ≤ (s : Int) := by omega
        have k1 : (s : Int) ≤ (cap : Int) := by omega
        have k2 : (s : Int) ≤ (n : Int) := by omega
        have k3 : (n : Int) ≤ (cap : Int) := by omega
        have k4 : ¬ (i : Int) < (s : Int) := by omega
        have hcs : ¬ cap = s := by omega
        have hwr : IntKind.i64.wrap ((i : Int) - (s : Int)) = (i : Int) - (s : Int) := wrap_sub (by omega) (by omega)
        go_enter Tryz.func74, Tryz.ntmps74
        go_wp2_with fail
        refine (c85 _ _).mono ?_
        rintro e w1 ⟨rfl, rfl⟩
        rw [unhide HTS]
        go_wp2_with fail
        have hW0 := below_drew w1
        go_region_held3 (fun w' => Below w1.heap.size w1 w') (assumption) (first | (go_at_call 74; refine (unhide HP _ _ (by omega) (by exact (unhide HRD).drew)).mono ?_; rintro e w2 ⟨v, rfl, ho1, hb1⟩; have hb2 := below_undrew hb1) | (go_at_call 53; refine (c53b lt _ _ _ _ (unhide HLT) (by omega) (by omega) (by exact (unhide HRT).below hb2 (Nat.le_refl _))).mono ?_; rintro e w3 ⟨rfl, hb3⟩; have ho3 := ho1.below hb3; have hb4 := below_then hb2 hb3; have hb5 := hb4.alloc hb4.size (.cells #[.int .i64 (Tm.root lt)] 3)) | (refine step_append_lies _ rfl _ _ 25 rfl w1.heap.size 3 i0 (.int .i64 0) 1 8 Tryz.underlying25 hi0 hz0 hz1 hz2 rfl (by decide) _ _ _ rfl (ho3.2.alloc _) ⟨w3.heap.size, 0, none⟩ 1 1 [.int .i64 (Tm.root lt)] rfl rfl (cell_one_new _ _ _) (by simp [Value.oneCell']) (by decide) (by unfold maxLen; omega) (by omega) hb5.size _ rfl ?_; intro g cp w4 hown4 hgrow4 hat4 hlt4; have hfin := own_fin hb4 ho3 (unhide HX) hown4 hgrow4; have hb6 := hfin.2))
        have HF := hide hfin
        clear hfin hb1 hb2 hb3 hb4 hb5 hb6 ho1 ho3 hown4 hgrow4 hW0
        go_wp2_with fail
        go_ret
        exact ⟨_, rfl, by rw [unhide HU]; exact (unhide HF).1, (unhide HF).2⟩

theorem treProof_no {zs : List Int} {i : Int} (h : ¬ (Tm.treOk zs = true ∧ 0 ≤ i ∧ i < zs.length)) : Tm.treProof zs i = [] := by unfold Tm.treProof; rw [if_neg h]
theorem treProof_of {zs : List Int} {i : Int} (h : Tm.treOk zs = true ∧ 0 ≤ i ∧ i < zs.length) : Tm.treProof zs i = Tm.prf zs i.toNat := by unfold Tm.treProof; rw [if_pos h]

end Go.Proofs.YtmlbphmbffkdnaaGreat
namespace Go.Proofs.YtmlbphmbffkdnaaGreat
open Go.RowKit
set_option linter.unusedVariables false

/-- A block that holds these values, each of which may be written. -/
def Box (w : World) (g : Nat) (vs : List Value) : Prop := ∀ j v, vs[j]? = some v → w.cell? ⟨g, j, none⟩ = some v ∧ w.frozen? ⟨g, j, none⟩ = false
theorem Box.cell {w : World} {g : Nat} {vs : List Value} (h : Box w g vs) (j : Nat) {v : Value} (hv : vs[j]? = some v) : w.cell? ⟨g, j, none⟩ = some v := (h j v hv).1
theorem Box.frozen {w : World} {g : Nat} {vs : List Value} (h : Box w g vs) (j : Nat) {v : Value} (hv : vs[j]? = some v) : w.frozen? ⟨g, j, none⟩ = false := (h j v hv).2
theorem Box.lt {w : World} {g : Nat} {v : Value} {vs : List Value} (h : Box w g (v :: vs)) : g < w.heap.size := World.block_lt_of_cell? w _ (h 0 v rfl).1
theorem Box.below {W w : World} {g : Nat} {vs : List Value} (h : Box W g vs) (hb : Below W.heap.size W w) : Box w g vs := fun j v hv =>
  have hc := (h j v hv).1
  ⟨cell_below hb hc, (hb.frozen (p := ⟨g, j, none⟩) (World.block_lt_of_cell? W _ hc)).trans (h j v hv).2⟩
theorem Box.alloc {W : World} {g : Nat} {vs : List Value} (h : Box W g vs) (o : Obj) : Box (W.alloc o) g vs := h.below ((Below.refl _ _).alloc (Nat.le_refl _) _)
theorem Box.drew {W : World} {g : Nat} {vs : List Value} (h : Box W g vs) : Box W.drew g vs := h.below (below_drew W)
theorem box_new (W : World) (vs : List Value) (t : Nat) (h1 : ∀ v ∈ vs, v.oneCell' = true) : Box (W.alloc (.cells vs.toArray t)) W.heap.size vs := by
  intro j v hv
  refine ⟨?_, by simp⟩
  rw [World.cell?_alloc_new]
  simpa using hv
/-- the cells of a block, written one behind the other -/
def putAll (w : World) (g : Nat) : Nat → List Value → World
  | _, [] => w
  | j, v :: vs => putAll (w.setCell ⟨g, j, none⟩ v) g (j + 1) vs
theorem putAll_lo : ∀ (vs : List Value) (w : World) (g i j : Nat), i < j → (putAll w g j vs).cell? ⟨g, i, none⟩ = w.cell? ⟨g, i, none⟩ := by
  intro vs
  induction vs with
  | nil => intro w g i j h; rfl
  | cons v vs ih =>
    intro w g i j h
    show (putAll (w.setCell ⟨g, j, none⟩ v) g (j + 1) vs).cell? _ = _
    rw [ih _ g i (j + 1) (by omega), World.cell?_setCell_other _ _ _ _ (by first | (simp; done) | (simp; omega))]
theorem putAll_frozen : ∀ (vs : List Value) (w : World) (g j : Nat) (p : Addr), (putAll w g j vs).frozen? p = w.frozen? p := by
  intro vs
  induction vs with
  | nil => intro w g j p; rfl
  | cons v vs ih =>
    intro w g j p
    show (putAll (w.setCell ⟨g, j, none⟩ v) g (j + 1) vs).frozen? p = _
    rw [ih]; simp
theorem putAll_far : ∀ (vs : List Value) (w : World) (g j : Nat) (p : Addr), p.block ≠ g → (putAll w g j vs).cell? p = w.cell? p := by
  intro vs
  induction vs with
  | nil => intro w g j p h; rfl
  | cons v vs ih =>
    intro w g j p h
    show (putAll (w.setCell ⟨g, j, none⟩ v) g (j + 1) vs).cell? p = _
    rw [ih _ g _ p h]
    exact World.cell?_setCell_other _ _ _ _ (by intro e; subst e; exact h rfl)
theorem putAll_at : ∀ (vs us : List Value) (w : World) (g j : Nat), us.length = vs.length → (∀ i u, us[i]? = some u → w.cell? ⟨g, j + i, none⟩ = some u) → ∀ i v, vs[i]? = some v → (putAll w g j vs).cell? ⟨g, j + i, none⟩ = some v := by
  intro vs
  induction vs with
  | nil => intro us w g j hl h i v hv; simp at hv
  | cons x vs ih =>
    intro us w g j hl h i v hv
    cases us with
    | nil => simp at hl
    | cons u us =>
      show (putAll (w.setCell ⟨g, j, none⟩ x) g (j + 1) vs).cell? _ = _
      cases i with
      | zero =>
        rw [Nat.add_zero, putAll_lo _ _ _ _ _ (by omega)]
        simp at hv
        subst hv
        exact World.cell?_setCell_same _ _ _ (h 0 u rfl)
      | succ i =>
        rw [show j + (i + 1) = j + 1 + i by omega]
        refine ih us _ g (j + 1) (by simpa using hl) ?_ i v (by simpa using hv)
        intro k y hy
        rw [World.cell?_setCell_other _ _ _ _ (by first | (simp; done) | (simp; omega)), show j + 1 + k = j + (k + 1) by omega]
        exact h (k + 1) y (by simpa using hy)
theorem Box.store {w : World} {g : Nat} {us : List Value} (h : Box w g us) (vs : List Value) (hl : us.length = vs.length) : Box (putAll w g 0 vs) g vs := by
  intro j v hv
  have h1 := putAll_at vs us w g 0 hl (fun i u hu => by rw [Nat.zero_add]; exact (h i u hu).1) j v hv
  rw [Nat.zero_add] at h1
  refine ⟨h1, ?_⟩
  rw [putAll_frozen]
  have hj : j < us.length := by
    rw [hl]
    rcases Nat.lt_or_ge j vs.length with h2 | h2
    · exact h2
    · rw [List.getElem?_eq_none h2] at hv; cases hv
  exact (h j us[j] (List.getElem?_eq_getElem hj)).2
theorem Box.other {w : World} {g g' : Nat} {us : List Value} (h : Box w g us) (hne : g ≠ g') (vs : List Value) : Box (putAll w g' 0 vs) g us := fun j v hv =>
  ⟨(putAll_far vs w g' 0 ⟨g, j, none⟩ hne).trans (h j v hv).1, (putAll_frozen vs w g' 0 _).trans (h j v hv).2⟩
theorem below_putAll : ∀ (vs : List Value) {A W : World} {g : Nat} (j : Nat) (h : Below A.heap.size A W) (hg : A.heap.size ≤ g), Below A.heap.size A (putAll W g j vs) := by
  intro vs
  induction vs with
  | nil => intro A W g j h hg; exact h
  | cons v vs ih => intro A W g j h hg; exact ih (j + 1) (h.setCell (p := ⟨g, j, none⟩) hg v) hg
theorem cell_putAll {w : World} {g : Nat} (vs : List Value) {p : Addr} (h : p.block ≠ g) : (putAll w g 0 vs).cell? p = w.cell? p := putAll_far vs w g 0 p h
theorem below_alloc2 {A W : World} {o : Obj} (h : Below A.heap.size A W) : Below A.heap.size A (W.alloc o) := h.alloc h.size _
/-- A region that ends as told, whatever the order: what it has left in a new block is all that is asked on. -/
theorem wp_mid1 {P : Program} {c : Code} {Q : Exit → Act → World → Prop} {A : Act} {w : World} (F : Nat → World → Prop) (upd : Act → Nat → Act)
    (h1 : c.wp P (fun e a' w' => e = .normal ∧ ∃ g1, a' = upd A g1 ∧ F g1 w') A w) (h2 : ∀ g1 w', F g1 w' → Q .normal (upd A g1) w') : c.wp P Q A w :=
  Code.wp_mono (fun e a' w' ⟨he, g1, ha, hf⟩ => by subst he ha; exact h2 g1 w' hf) h1
theorem wp_mid {β : Type} {P : Program} {c : Code} {Q : Exit → Act → World → Prop} {A : Act} {w : World} (F : β → World → Prop) (upd : Act → β → Act)
    (h1 : c.wp P (fun e a' w' => e = .normal ∧ ∃ b, a' = upd A b ∧ F b w') A w) (h2 : ∀ b w', F b w' → Q .normal (upd A b) w') : c.wp P Q A w :=
  Code.wp_mono (fun e a' w' ⟨he, b, ha, hf⟩ => by subst he ha; exact h2 b w' hf) h1
end Go.Proofs.YtmlbphmbffkdnaaGreat
