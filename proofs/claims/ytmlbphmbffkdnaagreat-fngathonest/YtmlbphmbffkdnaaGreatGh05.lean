/-
  Texts of the proof, what it needs of them: Draw.
-/
import Derived.Test.YtmlbphmbffkdnaaGreatGh04
namespace Go.Proofs.YtmlbphmbffkdnaaGreat
open Go.RowKit

/-- The reader at block r: the bytes that it goes by, in memory that was there before it, and a count of at most k picks. -/
def Rd (w : World) (r : Nat) (k : Nat) : Prop :=
  ∃ (ao : Option Addr) (n cap p : Nat) (zs : List Int), zs.length = n ∧ n ≤ 2000 ∧ p ≤ k ∧ Bytes w ao zs ∧ (zs ≠ [] → ∀ a, ao = some a → a.block < r) ∧
    w.cell? ⟨r, 0, none⟩ = some (.slice ao n cap) ∧ w.cell? ⟨r, 1, none⟩ = some (.int .i64 p) ∧ w.frozen? ⟨r, 1, none⟩ = false

/-- What a pick leaves: a number below n, the reader one pick on, nothing else written. -/
def Picked (w : World) (r k : Nat) (n : Int) (e : Ending) (w' : World) : Prop :=
  ∃ x : Int, e = .returned (.int .i64 x) ∧ 0 ≤ x ∧ (1 ≤ n → x < n) ∧ Rd w' r (k + 1) ∧ w.grownBy w' (some r)

theorem Bytes.kept {w w' : World} {ao : Option Addr} {zs : List Int} {r : Nat} (h : Bytes w ao zs) (hg : w.grownBy w' (some r)) (hne : zs ≠ [] → ∀ a, ao = some a → a.block ≠ r) : Bytes w' ao zs := by
  refine ⟨h.1, fun hne' => ?_⟩
  obtain ⟨b, off, rfl, hc⟩ := h.2 hne'
  exact ⟨b, off, rfl, fun k hk => hg.cell (hc k hk) (by have := hne hne' _ rfl; simpa using this)⟩
theorem grown_set (w : World) (r o : Nat) (v : Value) : w.grownBy (w.setCell ⟨r, o, none⟩ v) (some r) :=
  ⟨rfl, rfl, rfl, by simp [World.setCell], fun k _ hk => Below.heap_setCell _ _ _ _ (by simpa using hk)⟩
theorem grown_drewN {w w' : World} {row : Option Nat} (h : w.grownBy w' row) (n : Nat) : w.grownBy (w'.drewN n) row := ⟨h.os, h.tape, h.output, h.size, h.block⟩
theorem grown_trans {a b c : World} {row : Option Nat} (h : a.grownBy b row) (k : b.grownBy c row) : a.grownBy c row :=
  ⟨k.os.trans h.os, k.tape.trans h.tape, k.output.trans h.output, Nat.le_trans h.size k.size, fun i hi hr => (k.block i (Nat.lt_of_lt_of_le hi h.size) hr).trans (h.block i hi hr)⟩
theorem Rd.mono {w : World} {r k k' : Nat} (h : Rd w r k) (hk : k ≤ k') : Rd w r k' := by
  obtain ⟨ao, n, cap, p, zs, h1, h2, h3, r⟩ := h
  exact ⟨ao, n, cap, p, zs, h1, h2, Nat.le_trans h3 hk, r⟩
theorem Rd.drewN {w : World} {r k : Nat} (h : Rd w r k) (n : Nat) : Rd (w.drewN n) r k := h
theorem Rd.lt {w : World} {r k : Nat} (h : Rd w r k) : r < w.heap.size := by
  obtain ⟨ao, n, cap, p, zs, h1, h2, h3, h4, h5, h6, h7, h8⟩ := h
  exact World.block_lt_of_cell? w _ h6
/-- the reader stays as it is where younger blocks are written -/
theorem Rd.kept {w w' : World} {r k : Nat} {row : Option Nat} (h : Rd w r k) (hg : w.grownBy w' row) (hrow : ∀ b, row = some b → r < b) : Rd w' r k := by
  have hlt := h.lt
  have hr : some r ≠ row := fun e => by have := hrow r e.symm; omega
  obtain ⟨ao, n, cap, p, zs, h1, h2, h3, h4, h5, h6, h7, h8⟩ := h
  refine ⟨ao, n, cap, p, zs, h1, h2, h3, ⟨h4.1, fun hne => ?_⟩, h5, hg.cell h6 hr, hg.cell h7 hr, ?_⟩
  · obtain ⟨b, off, rfl, hc⟩ := h4.2 hne
    refine ⟨b, off, rfl, fun j hj => hg.cell (hc j hj) ?_⟩
    intro e
    have h9 := hrow b e.symm
    have h10 := h5 hne _ rfl
    simp only at h10
    omega
  · rw [World.frozen?_of_block (w := w) (hg.block r hlt hr)]; exact h8
theorem Rd.step {w : World} {r k : Nat} {ao : Option Addr} {n cap p : Nat} {zs : List Int} (h1 : zs.length = n) (h2 : n ≤ 2000) (h3 : p ≤ k) (h4 : Bytes w ao zs) (h5 : zs ≠ [] → ∀ a, ao = some a → a.block < r)
    (h6 : w.cell? ⟨r, 0, none⟩ = some (.slice ao n cap)) (h7 : w.cell? ⟨r, 1, none⟩ = some (.int .i64 p)) (h8 : w.frozen? ⟨r, 1, none⟩ = false) :
    Rd (w.setCell ⟨r, 1, none⟩ (.int .i64 ((p : Int) + 1))) r (k + 1) := by
  have e : (w.setCell ⟨r, 1, none⟩ (.int .i64 ((p : Int) + 1))).cell? ⟨r, 0, none⟩ = w.cell? ⟨r, 0, none⟩ := World.cell?_setCell_other _ _ _ _ (by simp)
  refine ⟨ao, n, cap, p + 1, zs, h1, h2, by omega, h4.kept (grown_set _ _ _ _) (fun hz a ha => Nat.ne_of_lt (h5 hz a ha)), h5, e.trans h6, ?_, ?_⟩
  · rw [show ((p + 1 : Nat) : Int) = (p : Int) + 1 from by omega]
    exact World.cell?_setCell_same _ _ _ h7
  · simpa using h8

theorem xor_i64 (a b : Nat) (ha : a < 4611686018427387904) (hb : b < 4611686018427387904) : bits .xor .i64 (a : Int) (b : Int) = ((a ^^^ b : Nat) : Int) := by
  have hx : a ^^^ b < 2 ^ 62 := Nat.xor_lt_two_pow (by omega) (by omega)
  show IntKind.i64.wrap ((BitVec.ofInt 64 (a : Int) ^^^ BitVec.ofInt 64 (b : Int)).toNat : Int) = _
  rw [BitVec.toNat_xor, ofInt_u64 a (by omega), ofInt_u64 b (by omega)]
  simp [IntKind.wrap, IntKind.bits, IntKind.signed]
  omega
theorem xor_nonneg (a b : Int) (h1 : 0 ≤ a) (h2 : a < 4611686018427387904) (h3 : 0 ≤ b) (h4 : b < 4611686018427387904) : 0 ≤ bits .xor .i64 a b := by
  obtain ⟨A, rfl⟩ := Int.eq_ofNat_of_zero_le h1
  obtain ⟨B, rfl⟩ := Int.eq_ofNat_of_zero_le h3
  rw [xor_i64 A B (by omega) (by omega)]
  omega
theorem tmod_range (a n : Int) (h1 : 0 ≤ a) (h2 : 1 ≤ n) : 0 ≤ a.tmod n ∧ a.tmod n < n := by
  rw [Int.tmod_eq_emod_of_nonneg h1]
  exact ⟨Int.emod_nonneg _ (by omega), Int.emod_lt_of_pos _ (by omega)⟩
theorem emod_range (a n : Int) (h2 : 1 ≤ n) : 0 ≤ a % n ∧ a % n < n := ⟨Int.emod_nonneg _ (by omega), Int.emod_lt_of_pos _ (by omega)⟩

set_option maxHeartbeats 2000000 in
theorem c26 (r k : Nat) (n : Int) (w : World) (hk : k ≤ 1000000000) (h : Rd w r k) :
    Calls Tryz.prog 26 #[.pointer (some ⟨r, 0, none⟩), .int .i64 n] w (Picked w r k n) := by
  obtain ⟨ao, m, cap, p, zs, hz, hm, hp, hB, hne, hc0, hc1, hf⟩ := h
  have HR := hide (Rd.step hz hm hp hB hne hc0 hc1 hf)
  have HG := hide (grown_set w r 1 (.int .i64 ((p : Int) + 1)))
  by_cases h1 : n < 1
  · have H1 := hide h1
    clear hB hne
    go_enter Tryz.func26, Tryz.ntmps26
    go_wp2_with fail
    go_ret
    exact ⟨0, rfl, Int.le_refl _, fun h => by have := unhide H1; omega, unhide HR, unhide HG⟩
  · have h1' : decide (n < 1) = false := by simpa using h1
    have hn1 : 1 ≤ n := by omega
    by_cases h2 : m = 0
    · subst h2
      clear hB hne
      go_enter Tryz.func26, Tryz.ntmps26
      go_wp2_with fail
      go_ret
      exact ⟨0, rfl, Int.le_refl _, fun h => by omega, unhide HR, unhide HG⟩
    · have h2' : ((m : Int) == 0) = false := by simpa using h2
      have hzn : zs ≠ [] := by intro e; subst e; simp at hz; omega
      obtain ⟨b, off, rfl, hc⟩ := hB.2 hzn
      have hbr : b ≠ r := Nat.ne_of_lt (hne hzn ⟨b, off, none⟩ rfl)
      have hcs : ∀ j, j < zs.length → (w.setCell ⟨r, 1, none⟩ (.int .i64 ((p : Int) + 1))).cell? ⟨b, off + j, none⟩ = some (.int .u8 (zs.getD j 0)) := by
        intro j hj
        rw [← hc j hj]
        exact World.cell?_of_block (Below.heap_setCell _ _ _ _ (by simpa using hbr))
      by_cases h3 : p < m
      · have hcj := hcs p (by omega)
        have hx := hB.1 (zs.getD p 0) (by rw [Tm.getD_eq (by omega)]; exact List.getElem_mem _)
        generalize zs.getD p 0 = x at *
        have HT := hide (emod_range x n hn1)
        obtain ⟨hx0, hx1⟩ := hx
        clear hcs hc hB hne
        go_enter Tryz.func26, Tryz.ntmps26
        go_wp2_with fail
        go_ret
        exact ⟨x % n, rfl, (unhide HT).1, fun _ => (unhide HT).2, unhide HR, unhide HG⟩
      · have hm0 : 0 < m := by omega
        have e1 : (0 : Int) ≤ (p : Int) % (m : Int) := Int.emod_nonneg _ (by omega)
        have e2 : (p : Int) % (m : Int) < (m : Int) := Int.emod_lt_of_pos _ (by omega)
        have e3 : (0 : Int) ≤ ((p : Int) * 7 + 3) % (m : Int) := Int.emod_nonneg _ (by omega)
        have e4 : ((p : Int) * 7 + 3) % (m : Int) < (m : Int) := Int.emod_lt_of_pos _ (by omega)
        have e5 : (0 : Int) ≤ (p : Int) / (m : Int) := Int.ediv_nonneg (by omega) (by omega)
        have e6 : (p : Int) / (m : Int) ≤ 1000000000 := Int.le_trans (Int.ediv_le_self _ (by omega)) (by omega)
        have hca := hcs (p % m) (by rw [hz]; exact Nat.mod_lt _ hm0)
        have hcb := hcs ((p * 7 + 3) % m) (by rw [hz]; exact Nat.mod_lt _ hm0)
        have hxa := hB.1 (zs.getD (p % m) 0) (by rw [Tm.getD_eq (by rw [hz]; exact Nat.mod_lt _ hm0)]; exact List.getElem_mem _)
        have hxb := hB.1 (zs.getD ((p * 7 + 3) % m) 0) (by rw [Tm.getD_eq (by rw [hz]; exact Nat.mod_lt _ hm0)]; exact List.getElem_mem _)
        generalize zs.getD (p % m) 0 = x at *
        generalize zs.getD ((p * 7 + 3) % m) 0 = y at *
        have H0 : Hid ((w.setCell ⟨r, 1, none⟩ (.int .i64 ((p : Int) + 1))).cell? ⟨r, 0, none⟩ = some (.slice (some ⟨b, off, none⟩) m cap)) := by
          have e : (w.setCell ⟨r, 1, none⟩ (.int .i64 ((p : Int) + 1))).cell? ⟨r, 0, none⟩ = w.cell? ⟨r, 0, none⟩ := World.cell?_setCell_other _ _ _ _ (by simp)
          exact e.trans hc0
        have HA := hide hca
        have HB := hide hcb
        obtain ⟨xa, xb⟩ := hxa
        obtain ⟨ya, yb⟩ := hxb
        clear hca hcb hcs hc hB hne
        go_enter Tryz.func26, Tryz.ntmps26
        go_wp2_with fail
        clear hc0 hc1
        generalize w.setCell ⟨r, 1, none⟩ (.int .i64 ((p : Int) + 1)) = W at *
        have h0 := unhide H0
        have hca := unhide HA
        have hcb := unhide HB
        clear H0 HA HB
        go_quiet (fail)
        go_wp2_with fail
        go_ret
        refine ⟨_, rfl, (tmod_range _ n (xor_nonneg _ _ ?_ ?_ ?_ ?_) hn1).1, fun _ => (tmod_range _ n (xor_nonneg _ _ ?_ ?_ ?_ ?_) hn1).2, (unhide HR).drewN _, grown_drewN (unhide HG) _⟩
        all_goals omega
end Go.Proofs.YtmlbphmbffkdnaaGreat
namespace Go.Proofs.YtmlbphmbffkdnaaGreat
open Go.RowKit

def Odd (w : World) (r k : Nat) (e : Ending) (w' : World) : Prop :=
  ∃ b : Bool, e = .returned (.bool b) ∧ Rd w' r (k + 1) ∧ w.grownBy w' (some r)
def Drawn (w : World) (r k : Nat) (e : Ending) (w' : World) : Prop :=
  ∃ x : Int, e = .returned (.int .i64 x) ∧ (-9223372036854775808 ≤ x ∧ x ≤ 9223372036854775807) ∧ Rd w' r k ∧ w.grownBy w' (some r)

set_option maxHeartbeats 1000000 in
theorem c27 (r k : Nat) (n : Int) (w : World) (hk : k ≤ 1000000000) (hn : 1 ≤ n ∧ n ≤ 1000000) (h : Rd w r k) :
    Calls Tryz.prog 27 #[.pointer (some ⟨r, 0, none⟩), .int .i64 n] w (Odd w r k) := by
  obtain ⟨n1, n2⟩ := hn
  have H := hide h
  clear h
  go_enter Tryz.func27, Tryz.ntmps27
  go_wp2_with fail
  refine (c26 r k n _ hk (unhide H)).mono ?_
  rintro e w1 ⟨x, rfl, hx, hx2, hr, hg⟩
  have HR := hide hr
  have HG := hide hg
  clear hr hg hx2
  go_wp2_with fail
  go_ret
  exact ⟨_, rfl, unhide HR, unhide HG⟩

theorem grown_alloc_any {w w' : World} {row : Option Nat} {o : Obj} (h : (w.alloc o).grownBy w' row) : w.grownBy w' row :=
  grown_trans (World.grownBy_alloc w o row) h
theorem Rd.alloc {w : World} {r k : Nat} (h : Rd w r k) (o : Obj) : Rd (w.alloc o) r k :=
  h.kept (World.grownBy_alloc w o none) (fun b hb => by cases hb)

/-- a pick behind a literal list: the list is still there -/
theorem pick_lit (r k : Nat) (n : Int) (w : World) (cs : Array Value) (hk : k ≤ 1000000000) (hn : 1 ≤ n) (h : Rd w r k) :
    Calls Tryz.prog 26 #[.pointer (some ⟨r, 0, none⟩), .int .i64 n] (w.alloc (.cells cs 3)) fun e w' => ∃ x : Int, e = .returned (.int .i64 x) ∧ 0 ≤ x ∧ x < n ∧ Rd w' r (k + 1) ∧ w.grownBy w' (some r) ∧
      ∀ j v, cs[j]? = some v → w'.cell? ⟨w.heap.size, j, none⟩ = some v := by
  refine (c26 r k n _ hk (h.alloc _)).mono ?_
  rintro e w1 ⟨x, rfl, hx, hx2, hr, hg⟩
  refine ⟨x, rfl, hx, hx2 hn, hr, grown_alloc_any hg, fun j v hv => ?_⟩
  refine hg.cell (a := ⟨w.heap.size, j, none⟩) (by rw [World.cell?_alloc_new]; exact hv) ?_
  have := h.lt
  simp only [ne_eq, Option.some.injEq]
  omega

set_option maxHeartbeats 2000000 in
theorem c32 (r k : Nat) (n : Int) (w : World) (hk : k ≤ 900000000) (hn : 1 ≤ n ∧ n ≤ 1000000) (h : Rd w r k) :
    Calls Tryz.prog 32 #[.pointer (some ⟨r, 0, none⟩), .int .i64 n] w (Drawn w r (k + 4)) := by
  have H := hide h
  have HN := hide hn
  clear h hn
  go_enter Tryz.func32, Tryz.ntmps32
  go_wp2_with fail
  refine (c27 r k n _ (by omega) (unhide HN) (unhide H)).mono ?_
  rintro e w1 ⟨b, rfl, hr, hg⟩
  have HR := hide hr
  have HG := hide hg
  clear hr hg
  cases b
  · go_wp2_with fail
    refine (c26 r (k + 1) 256 _ (by omega) (unhide HR)).mono ?_
    rintro e w2 ⟨x, rfl, hx, hx2, hr, hg⟩
    have hx3 : x < 256 := hx2 (by omega)
    have HR2 := hide hr
    have HG2 := hide (grown_trans (unhide HG) hg)
    clear hr hg hx2
    go_wp2_with fail
    refine (c26 r (k + 2) 250 _ (by omega) (unhide HR2)).mono ?_
    rintro e w3 ⟨y, rfl, hy, hy2, hr, hg⟩
    have hy3 : y < 250 := hy2 (by omega)
    have HR3 := hide hr
    have HG3 := hide (grown_trans (unhide HG2) hg)
    clear hr hg hy2
    go_wp2_with fail
    refine (pick_lit r (k + 3) 4 _ _ (by omega) (by omega) (unhide HR3)).mono ?_
    rintro e w4 ⟨z, rfl, hz, hz2, hr, hg, hl⟩
    have HR4 := hide hr
    have HG4 := hide (grown_trans (unhide HG3) hg)
    have h0 := hl 0 _ rfl
    have h1 := hl 1 _ rfl
    have h2 := hl 2 _ rfl
    have h3 := hl 3 _ rfl
    clear hr hg hl
    obtain rfl | rfl | rfl | rfl : z = 0 ∨ z = 1 ∨ z = 2 ∨ z = 3 := by omega
    all_goals
      go_wp2_with fail
      go_ret
      exact ⟨_, rfl, by omega, unhide HR4, unhide HG4⟩
  · go_wp2_with fail
    refine (pick_lit r (k + 1) 3 _ _ (by omega) (by omega) (unhide HR)).mono ?_
    rintro e w2 ⟨x, rfl, hx, hx2, hr, hg, hl⟩
    have HR2 := hide (hr.mono (show k + 2 ≤ k + 4 by omega))
    have HG2 := hide (grown_trans (unhide HG) hg)
    have h0 := hl 0 _ rfl
    have h1 := hl 1 _ rfl
    have h2 := hl 2 _ rfl
    clear hr hg hl
    obtain rfl | rfl | rfl : x = 0 ∨ x = 1 ∨ x = 2 := by omega
    all_goals
      go_wp2_with fail
      go_ret
      exact ⟨_, rfl, by omega, unhide HR2, unhide HG2⟩

/-- What a reader is opened with: a block of its own. -/
def Opened (w : World) (e : Ending) (w' : World) : Prop :=
  e = .returned (.pointer (some ⟨w.heap.size, 0, none⟩)) ∧ Rd w' w.heap.size 0 ∧ Below w.heap.size w w' ∧ w.heap.size < w'.heap.size

theorem Bytes.take {w : World} {ao : Option Addr} {zs : List Int} (h : Bytes w ao zs) (k : Nat) : Bytes w ao (zs.take k) := by
  refine ⟨fun z hz => h.1 z (List.mem_of_mem_take hz), fun hne => ?_⟩
  have hz : zs ≠ [] := by intro e; subst e; simp at hne
  obtain ⟨b, off, rfl, hc⟩ := h.2 hz
  refine ⟨b, off, rfl, fun j hj => ?_⟩
  simp only [List.length_take] at hj
  rw [hc j (by omega)]
  simp [List.getD, show j < k by omega]

theorem opened_of {w : World} {ao : Option Addr} {n cap : Nat} {zs : List Int} (h1 : zs.length = n) (h2 : n ≤ 2000) (hB : Bytes w ao zs) (t : TypeId) :
    Rd (w.alloc (.cells #[.slice ao n cap, .int .i64 0] t)) w.heap.size 0 ∧ Below w.heap.size w (w.alloc (.cells #[.slice ao n cap, .int .i64 0] t)) ∧ w.heap.size < (w.alloc (.cells #[.slice ao n cap, .int .i64 0] t)).heap.size := by
  have hbel : Below w.heap.size w (w.alloc (.cells #[.slice ao n cap, .int .i64 0] t)) := (Below.refl _ _).alloc (Nat.le_refl _) _
  refine ⟨⟨ao, n, cap, 0, zs, h1, h2, Nat.le_refl _, ⟨hB.1, fun hne => ?_⟩, ?_, ?_, ?_, ?_⟩, hbel, by simp⟩
  · obtain ⟨b, off, rfl, hc⟩ := hB.2 hne
    refine ⟨b, off, rfl, fun j hj => ?_⟩
    have h3 := hc j hj
    rw [hbel.cell (p := ⟨b, off + j, none⟩) (World.block_lt_of_cell? w _ h3)]
    exact h3
  · intro hz a ha
    obtain ⟨b, off, rfl, hc⟩ := hB.2 hz
    cases ha
    exact World.block_lt_of_cell? w _ (hc 0 (by cases zs; exact absurd rfl hz; simp))
  · rw [World.cell?_alloc_new]; rfl
  · rw [World.cell?_alloc_new]; rfl
  · simp

set_option maxHeartbeats 1000000 in
theorem c23 (zs : List Int) (ao : Option Addr) (n cap : Nat) (w : World) (hn : zs.length = n) (hc : n ≤ cap) (hm : cap ≤ maxLen) (hB : Bytes w ao zs) :
    Calls Tryz.prog 23 #[.slice ao n cap] w (Opened w) := by
  unfold maxLen at hm
  by_cases h1 : (2000 : Int) < (n : Int)
  · have HO := hide (opened_of (zs := zs.take 2000) (cap := cap) (w := w) (ao := ao) (n := 2000) (by rw [List.length_take]; omega) (Nat.le_refl _) (hB.take 2000) 92)
    clear hB
    go_enter Tryz.func23, Tryz.ntmps23
    go_wp2_with fail
    go_ret
    exact ⟨rfl, unhide HO⟩
  · have HO := hide (opened_of (cap := cap) hn (by omega) hB 92)
    clear hB
    go_enter Tryz.func23, Tryz.ntmps23
    go_wp2_with fail
    go_ret
    exact ⟨rfl, unhide HO⟩
end Go.Proofs.YtmlbphmbffkdnaaGreat
namespace Go.Proofs.YtmlbphmbffkdnaaGreat
open Go.RowKit

theorem below_of_grown {w w1 w2 : World} (hb : Below w.heap.size w w1) (hg : w1.grownBy w2 (some w.heap.size)) : Below w.heap.size w w2 :=
  hb.grown hg hb.size (fun k hk => by cases hk; exact Nat.le_refl _)

/-- one number more behind an owned list: what the append law leaves -/
theorem own_snoc {w : World} {base : Nat} {v : Value} {zs : List Int} {x : Int} (h : Fits zs) (hx : -9223372036854775808 ≤ x ∧ x ≤ 9223372036854775807) (ho : w.ownsRow base 3 1 v (zs.length + 1) (zs.map (Value.int .i64) ++ [.int .i64 x])) : Own w base v (zs ++ [x]) := by
  refine ⟨fun z hz => ?_, ?_⟩
  · rcases List.mem_append.1 hz with h1 | h1
    · exact h z h1
    · simp at h1; subst h1; exact hx
  · simpa using ho
theorem own_block {w : World} {base : Nat} {v : Value} {zs : List Int} (h : Own w base v zs) : ∀ b, v.ownBlock = some b → base ≤ b := fun b hb => (h.2.lt b hb).1
theorem Own.keptR {w w' : World} {base r : Nat} {v : Value} {zs : List Int} (h : Own w base v zs) (hg : w.grownBy w' (some r)) (hr : r < base) : Own w' base v zs := by
  refine ⟨h.1, h.2.kept hg (Or.inr ?_)⟩
  intro e
  have := own_block h r e
  omega
theorem own_empty (w : World) (base : Nat) (hb : base ≤ w.heap.size) : Own (w.alloc (.cells #[] 3)) base (.slice (some ⟨w.heap.size, 0, none⟩) 0 0) [] :=
  ⟨fun z hz => by simp at hz, World.ownsRow_lit w #[] 0 hb (by unfold maxLen; omega) rfl⟩
theorem Rd.own {w w' : World} {base r k : Nat} {v : Value} {zs : List Int} {o : Obj} (h : Rd w r k) (ho : Own w base v zs) (hb : r < base) (hg : (w.alloc o).grownBy w' v.ownBlock) : Rd w' r k :=
  (h.alloc o).kept hg (fun b hb' => Nat.lt_of_lt_of_le hb (own_block ho b hb'))

def sizeOf' : Value → Nat | .slice _ n _ => n | _ => 0
theorem Own.mono {w : World} {base base' : Nat} {v : Value} {zs : List Int} (h : Own w base v zs) (hb : base' ≤ base) : Own w base' v zs := by
  refine ⟨h.1, h.2.1, ?_⟩
  rcases h.2.2 with h2 | ⟨g, cap, cur, h3, h4, r⟩
  · exact Or.inl h2
  · exact Or.inr ⟨g, cap, cur, h3, Nat.le_trans hb h4, r⟩

end Go.Proofs.YtmlbphmbffkdnaaGreat
namespace Go.Proofs.YtmlbphmbffkdnaaGreat
open Go.RowKit

set_option maxHeartbeats 400000 in
theorem c10 (w : World) : Calls Tryz.prog 10 #[] w fun e w' => e = .returned (.bool true) ∧ w' = w := by
  go_enter Tryz.func10, Tryz.ntmps10
  go_wp2_with (go_at_call 46; refine (c46 _ _).mono ?_; rintro e w' ⟨rfl, rfl⟩)
  go_ret
  exact ⟨ret_bool (by decide), rfl⟩

/-- what a law leaves: true, and nothing that was there is written -/
def Holds (w : World) (e : Ending) (w' : World) : Prop := e = .returned (.bool true) ∧ Below w.heap.size w w'

end Go.Proofs.YtmlbphmbffkdnaaGreat
namespace Go.Proofs.YtmlbphmbffkdnaaGreat
open Go.RowKit

end Go.Proofs.YtmlbphmbffkdnaaGreat
namespace Go.Proofs.YtmlbphmbffkdnaaGreat
open Go.RowKit

theorem Row.nil (w : World) (ao : Option Addr) : Row w ao [] := ⟨fun z hz => by simp at hz, fun h => absurd rfl h⟩
theorem okAll_take (zs : List Int) (k : Nat) (h : k < zs.length) : Tm.okAll (zs.take (k + 1)) = (Tm.okAll (zs.take k) && Tm.okB (zs.getD k 0)) := by
  rw [Tm.take_snoc zs k h]; simp [Tm.okAll]

end Go.Proofs.YtmlbphmbffkdnaaGreat
