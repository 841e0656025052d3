/-
  The walks of the model's draws of numbers and of lists.
-/
import Derived.Test.YtdbnimgbmjeplaaDrawb
namespace Go.Proofs.Ytdbnimgbmjeplaa
open Go.RowKit

theorem below_of_grown {w w1 w2 : World} (hb : Below w.heap.size w w1) (hg : w1.grownBy w2 (some w.heap.size)) : Below w.heap.size w w2 :=
  hb.grown hg hb.size (fun k hk => by cases hk; exact Nat.le_refl _)

/-- one number more behind an owned list: what the append law leaves -/
theorem own_snoc {w : World} {base : Nat} {v : Value} {zs : List Int} {x : Int} (h : Fits zs) (hx : -9223372036854775808 ≤ x ∧ x ≤ 9223372036854775807) (ho : w.ownsRow base 3 1 v (zs.length + 1) (zs.map (Value.int .i64) ++ [.int .i64 x])) : Own w base v (zs ++ [x]) := by
  refine ⟨fun z hz => ?_, ?_⟩
  · rcases List.mem_append.1 hz with h1 | h1
    · exact h z h1
    · simp at h1; subst h1; exact hx
  · simpa using ho
theorem own_block {w : World} {base : Nat} {v : Value} {zs : List Int} (h : Own w base v zs) : ∀ b, v.ownBlock = some b → base ≤ b := fun b hb => (h.2.lt b hb).1
theorem Own.keptR {w w' : World} {base r : Nat} {v : Value} {zs : List Int} (h : Own w base v zs) (hg : w.grownBy w' (some r)) (hr : r < base) : Own w' base v zs := by
  refine ⟨h.1, h.2.kept hg (Or.inr ?_)⟩
  intro e
  have := own_block h r e
  omega
theorem own_empty (w : World) (base : Nat) (hb : base ≤ w.heap.size) : Own (w.alloc (.cells #[] 3)) base (.slice (some ⟨w.heap.size, 0, none⟩) 0 0) [] :=
  ⟨fun z hz => by simp at hz, World.ownsRow_lit w #[] 0 hb (by unfold maxLen; omega) rfl⟩
theorem grown_own {w0 w w' : World} {base r : Nat} {v : Value} {zs : List Int} {o : Obj} (h : Own w base v zs) (hg0 : w0.grownBy w (some r)) (hb : w0.heap.size ≤ base) (hg : (w.alloc o).grownBy w' v.ownBlock) : w0.grownBy w' (some r) := by
  refine ⟨hg.os.trans hg0.os, hg.tape.trans hg0.tape, hg.output.trans hg0.output, ?_, fun k hk hr => ?_⟩
  · have := hg.size
    have h2 := hg0.size
    simp at this
    omega
  · have h2 := hg0.size
    have h3 : (w.alloc o).heap[k]? = w.heap[k]? := Below.heap_alloc w o k (by omega)
    rw [hg.block k (by simp; omega) ?_, h3, hg0.block k hk hr]
    intro e
    have := own_block h k e.symm
    omega
theorem Rd.own {w w' : World} {base r k : Nat} {v : Value} {zs : List Int} {o : Obj} (h : Rd w r k) (ho : Own w base v zs) (hb : r < base) (hg : (w.alloc o).grownBy w' v.ownBlock) : Rd w' r k :=
  (h.alloc o).kept hg (fun b hb' => Nat.lt_of_lt_of_le hb (own_block ho b hb'))

def sizeOf' : Value → Nat | .slice _ n _ => n | _ => 0
/-- what a draw of a list leaves -/
def Lot (w : World) (r k m : Nat) (e : Ending) (w' : World) : Prop :=
  ∃ (v : Value) (zs : List Int), e = .returned v ∧ Own w' w.heap.size v zs ∧ zs.length ≤ m ∧ Rd w' r k ∧ w.grownBy w' (some r)

set_option maxHeartbeats 4000000 in
theorem c42 (r k : Nat) (n : Int) (w : World) (hk : k ≤ 1000000) (hn : 1 ≤ n ∧ n ≤ 1000000) (h : Rd w r k) :
    Calls Try.prog 42 #[.pointer (some ⟨r, 0, none⟩), .int .i64 n] w (Lot w r (k + 300) 41) := by
  have hrl := h.lt
  have H := hide h
  have HN := hide hn
  have HE := hide (own_empty w w.heap.size (Nat.le_refl _))
  clear h hn
  obtain ⟨i0, hi, hz0, hz1, hz2⟩ := info_parts Try.info3
  go_enter Try.func42, Try.ntmps42
  go_wp2_with fail
  refine (c43 r k 20 _ (by omega) ((unhide H).alloc _)).mono ?_
  rintro e w1 ⟨x, rfl, hx, hx2, hr, hg⟩
  have hx3 : x < 20 := hx2 (by omega)
  have HR1 := hide hr
  have HO1 := hide ((unhide HE).keptR hg hrl)
  have HG1 := hide (grown_alloc_any hg)
  clear hr hg hx2 HE
  go_wp2_with fail
  refine (pick_lit r (k + 1) 11 _ _ (by omega) (by omega) (unhide HR1)).mono ?_
  rintro e w2 ⟨z, rfl, hz, hz2', hr, hg, hl⟩
  have HR2 := hide hr
  have HO2 := hide ((unhide HO1).keptR hg hrl)
  have HG2 := hide (grown_trans (unhide HG1) hg)
  clear hr hg HO1 HR1 HG1
  have hcell : ∃ y : Int, 0 ≤ y ∧ y ≤ 40 ∧ w2.cell? ⟨w1.heap.size, z.toNat, none⟩ = some (.int .i64 y) := by
    obtain rfl | rfl | rfl | rfl | rfl | rfl | rfl | rfl | rfl | rfl | rfl : z = 0 ∨ z = 1 ∨ z = 2 ∨ z = 3 ∨ z = 4 ∨ z = 5 ∨ z = 6 ∨ z = 7 ∨ z = 8 ∨ z = 9 ∨ z = 10 := by omega
    · exact ⟨0, by omega, by omega, hl 0 _ rfl⟩
    · exact ⟨1, by omega, by omega, hl 1 _ rfl⟩
    · exact ⟨2, by omega, by omega, hl 2 _ rfl⟩
    · exact ⟨3, by omega, by omega, hl 3 _ rfl⟩
    · exact ⟨7, by omega, by omega, hl 4 _ rfl⟩
    · exact ⟨8, by omega, by omega, hl 5 _ rfl⟩
    · exact ⟨9, by omega, by omega, hl 6 _ rfl⟩
    · exact ⟨16, by omega, by omega, hl 7 _ rfl⟩
    · exact ⟨33, by omega, by omega, hl 8 _ rfl⟩
    · exact ⟨40, by omega, by omega, hl 9 _ rfl⟩
    · exact ⟨x, by omega, by omega, hl 10 _ rfl⟩
  obtain ⟨y, hy0, hy1, hcy⟩ := hcell
  clear hl
  obtain ⟨zN, rfl⟩ := Int.eq_ofNat_of_zero_le hz
  simp only [Int.toNat_natCast] at hcy
  obtain ⟨yN, rfl⟩ := Int.eq_ofNat_of_zero_le hy0
  go_wp2_with fail
  clear hcy
  go_loopw [5, 6] (fun v j wr => ∃ (zs : List Int) (J kk : Nat), j = .int .i64 J ∧ zs.length + J ≤ 40 ∧ kk + 4 * J ≤ k + 162 ∧ Own wr w.heap.size v zs ∧ Rd wr r kk ∧ w.grownBy wr (some r)) (fun _ j _ => (intOf j).toNat)
  case atStart => exact ⟨[], yN, k + 2, rfl, by simp; omega, by omega, unhide HO2, unhide HR2, unhide HG2⟩
  case round =>
    obtain ⟨zs, J, kk, rfl, hJ, hkk, ho, hr, hg⟩ := hrel
    have hws : w.heap.size ≤ wr.heap.size := hg.size
    have HO := hide ho
    have HR := hide hr
    have HG := hide hg
    clear ho hr hg HO2 HR2 HG2
    by_cases hlt : 0 < J
    · go_wp2_with fail
      refine (c47 r kk 99999 _ (by omega) (by omega) (unhide HR)).mono ?_
      rintro e w3 ⟨q, rfl, hq, hr, hg⟩
      have hws3 : w.heap.size ≤ w3.heap.size := Nat.le_trans hws hg.size
      have HO3 := hide ((unhide HO).keptR hg hrl)
      have HR3 := hide hr
      have HG3 := hide (grown_trans (unhide HG) hg)
      clear hr hg HO HR HG
      go_wp2_with (first | (at_builtin; refine wpList_append_own _ rfl _ _ 23 rfl w.heap.size 3 i0 (.int .i64 0) 1 8 Try.underlying23 hi hz0 hz1 hz2 rfl (by decide) _ _ _ rfl ((unhide HO3).2.alloc _) ⟨w3.heap.size, 0, none⟩ 1 1 [.int .i64 q] rfl rfl (cell_one_new _ _ _) ?c2 ?c3 ?c4 ?c5 ?_) | fail)
      case c2 => intro u hu; simp at hu; subst hu; rfl
      case c3 => unfold maxLen; omega
      case c4 => omega
      case c5 => simp; omega
      intro v' w4 hown' hgrow _
      have HO4 := hide (own_snoc (unhide HO3).1 hq hown')
      have HR4 := hide ((unhide HR3).own (unhide HO3) hrl hgrow)
      have HG4 := hide (grown_own (unhide HO3) (unhide HG3) (Nat.le_refl _) hgrow)
      clear hown' hgrow HO3 HR3 HG3
      go_wp2_with fail
      go_roundw
      case rel => exact ⟨zs ++ [q], J - 1, kk + 4, by go_num, by simp; omega, by omega, unhide HO4, unhide HR4, unhide HG4⟩
      case measure => simp [intOf]; omega
    · have hJ0 : J = 0 := by omega
      subst hJ0
      go_wp2_with fail
      refine (c62 r kk n _ (by omega) (unhide HN) (unhide HR)).mono ?_
      rintro e w3 ⟨b, rfl, hr, hg⟩
      have hws3 : w.heap.size ≤ w3.heap.size := Nat.le_trans hws hg.size
      have HO3 := hide ((unhide HO).keptR hg hrl)
      have HR3 := hide hr
      have HG3 := hide (grown_trans (unhide HG) hg)
      clear hr hg HO HR HG
      cases b
      · go_wp2_with fail
        go_ret
        exact ⟨_, zs, rfl, unhide HO3, by omega, (unhide HR3).mono (by omega), unhide HG3⟩
      · go_wp2_with fail
        refine (c43 r (kk + 1) 2 _ (by omega) (unhide HR3)).mono ?_
        rintro e w4 ⟨q, rfl, hq, hq2, hr, hg⟩
        have hws4 : w.heap.size ≤ w4.heap.size := Nat.le_trans hws3 hg.size
        have HO4 := hide ((unhide HO3).keptR hg hrl)
        have HR4 := hide hr
        have HG4 := hide (grown_trans (unhide HG3) hg)
        clear hr hg HO3 HR3 HG3 hq2
        by_cases hq0 : q = 0
        · subst hq0
          go_wp2_with (first | (at_builtin; refine wpList_append_own _ rfl _ _ 23 rfl w.heap.size 3 i0 (.int .i64 0) 1 8 Try.underlying23 hi hz0 hz1 hz2 rfl (by decide) _ _ _ rfl ((unhide HO4).2.alloc _) ⟨w4.heap.size, 0, none⟩ 1 1 [.int .i64 65521] rfl rfl (cell_one_new _ _ _) ?d2 ?d3 ?d4 ?d5 ?_) | fail)
          case d2 => intro u hu; simp at hu; subst hu; rfl
          case d3 => unfold maxLen; omega
          case d4 => omega
          case d5 => simp; omega
          intro v' w5 hown' hgrow _
          have HO5 := hide (own_snoc (unhide HO4).1 (by omega) hown')
          have HR5 := hide ((unhide HR4).own (unhide HO4) hrl hgrow)
          have HG5 := hide (grown_own (unhide HO4) (unhide HG4) (Nat.le_refl _) hgrow)
          clear hown' hgrow HO4 HR4 HG4
          go_wp2_with fail
          go_ret
          exact ⟨_, zs ++ [65521], rfl, unhide HO5, by simp; omega, (unhide HR5).mono (by omega), unhide HG5⟩
        · have hq0' : (q == 0) = false := by simpa using hq0
          go_wp2_with fail
          go_loopw [5] (fun v wr => ∃ zs : List Int, zs.length ≤ 41 ∧ Own wr w.heap.size v zs ∧ Rd wr r (kk + 2) ∧ w.grownBy wr (some r)) (fun v _ => 41 - sizeOf' v)
          case atStart => exact ⟨zs, by omega, unhide HO4, unhide HR4, unhide HG4⟩
          case round =>
            clear HO4 HR4 HG4
            obtain ⟨ys, hys, ho, hr, hg⟩ := hrel
            have hws5 : w.heap.size ≤ wr.heap.size := hg.size
            obtain ⟨ao, cap, rfl, -, -, -⟩ := ho.row
            have HO := hide ho
            have HR := hide hr
            have HG := hide hg
            clear ho hr hg
            by_cases hlt : ys.length ≤ 40
            · go_wp2_with (first | (at_builtin; refine wpList_append_own _ rfl _ _ 23 rfl w.heap.size 3 i0 (.int .i64 0) 1 8 Try.underlying23 hi hz0 hz1 hz2 rfl (by decide) _ _ _ rfl ((unhide HO).2.alloc _) ⟨wr.heap.size, 0, none⟩ 1 1 [.int .i64 1] rfl rfl (cell_one_new _ _ _) ?e2 ?e3 ?e4 ?e5 ?_) | fail)
              case e2 => intro u hu; simp at hu; subst hu; rfl
              case e3 => unfold maxLen; omega
              case e4 => omega
              case e5 => simp; omega
              intro v' w5 hown' hgrow _
              have HO5 := hide (own_snoc (unhide HO).1 (by omega) hown')
              have HR5 := hide ((unhide HR).own (unhide HO) hrl hgrow)
              have HG5 := hide (grown_own (unhide HO) (unhide HG) (Nat.le_refl _) hgrow)
              have hsz : sizeOf' v' = ys.length + 1 := by
                obtain ⟨ao', cap', hv, -, -, -⟩ := (unhide HO5).row
                rw [hv]; simp [sizeOf']
              have HS := hide hsz
              clear hown' hgrow HO HR HG hsz
              go_wp2_with fail
              go_roundw
              case rel => exact ⟨ys ++ [1], by simp; omega, unhide HO5, unhide HR5, unhide HG5⟩
              case measure => rw [unhide HS]; simp [sizeOf']; omega
            · go_wp2_with fail
              go_ret
              exact ⟨_, ys, rfl, unhide HO, hys, (unhide HR).mono (by omega), unhide HG⟩

/-- a list drawn out of a code: it lies in new memory, and nothing that was there is written -/
def Lots (w : World) (m : Nat) (e : Ending) (w' : World) : Prop :=
  ∃ (v : Value) (zs : List Int), e = .returned v ∧ Own w' w.heap.size v zs ∧ zs.length ≤ m ∧ Below w.heap.size w w'

theorem Own.mono {w : World} {base base' : Nat} {v : Value} {zs : List Int} (h : Own w base v zs) (hb : base' ≤ base) : Own w base' v zs := by
  refine ⟨h.1, h.2.1, ?_⟩
  rcases h.2.2 with h2 | ⟨g, cap, cur, h3, h4, r⟩
  · exact Or.inl h2
  · exact Or.inr ⟨g, cap, cur, h3, Nat.le_trans hb h4, r⟩

end Go.Proofs.Ytdbnimgbmjeplaa
