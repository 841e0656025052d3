/-
  The walks of the program's TreProof: the iterator over what stands beside a leaf is told into a list.
-/
import Derived.Test.YtjdnengmllamcaaSide
namespace Go.Proofs.Ytjdnengmllamcaa
open Go.RowKit Go.Shelf
set_option linter.unusedVariables false
attribute [local go_sem] Oper.semAt_some

set_option maxRecDepth 100000 in
set_option maxHeartbeats 1000000 in
theorem c170 (l n₀ D Bt Bi n : Nat) (zs : List Int) (i p f : Nat) (J Jx : List Int → World → Prop) (hJ : ∀ s W W', J s W → W.grownBy W' none → J s W')
    (hY : ∀ pre x W, J pre W → pre.length < (Tm.prf zs i).length → YieldAt Fence.wide (n - 1) Try.prog l #[.int .i64 x] W fun e W' =>
      (e = .returned (.bool true) ∧ J (pre ++ [x]) W' ∧ Kb n₀ D W W') ∨ (e = .returned (.bool false) ∧ Jx (pre ++ [x]) W'))
    (W : World) (h40 : zs.length ≤ 40) (hi : i < zs.length) (ht : TreeLo n₀ D f W p zs) (hn0 : n₀ ≤ W.heap.size) (hBt : W.cell? ⟨Bt, 0, none⟩ = some (.pointer (some ⟨p, 0, none⟩))) (hBi : W.cell? ⟨Bi, 0, none⟩ = some (.int .i64 i)) (hj : J [] W) :
    CallsIn Fence.wide n Try.prog 170 #[.func (.yield l) #[] #[], .pointer (some ⟨Bt, 0, none⟩), .pointer (some ⟨Bi, 0, none⟩)] W fun e W' => (∃ v, e = .returned v) ∧
      ((∃ ys, ys = Tm.prf zs i ∧ J ys W') ∨ (∃ pre, pre <+: Tm.prf zs i ∧ Jx pre W')) := by
  have hdd : ∀ k : Nat, (Fence.wide.depth.isSome = true → 1 ≤ k) := fun k h => by cases h
  have hp := hide (c171 l n₀ D (Tm.prf zs i).length J Jx hJ (fun m pre x W hj hl => wide_room (hY pre x W hj hl)) f zs i (n - 1) p [] W h40 hi ht hn0 hj (by simp))
  clear hY hJ hj ht
  refine callsIn_of_wp Try.func170 rfl trivial ?_ rfl
  simp only [Try.ntmps170, List.size_toArray, List.length_cons, List.length_nil, Nat.reduceAdd, Nat.reduceSub, Array.replicate_succ, Array.replicate_zero, List.push_toArray, List.append_toArray, List.nil_append, List.cons_append]
  gi_wp2_with fail
  refine ⟨trivial, hdd _, ?_⟩
  refine (unhide hp).mono ?_
  rintro e w4 (⟨rfl, hj4, hb4⟩ | ⟨rfl, q, hq, hx⟩)
  · have H := hide hj4
    clear hj4 hb4
    gi_wp2_with fail
    go_end0
    exact ⟨⟨_, rfl⟩, .inl ⟨_, rfl, by simpa using unhide H⟩⟩
  · have H := hide hx
    have HQ := hide hq
    clear hx hq
    gi_wp2_with fail
    go_end0
    exact ⟨⟨_, rfl⟩, .inr ⟨q, unhide HQ, by simpa using unhide H⟩⟩

set_option maxHeartbeats 1000000 in
theorem c153 (n : Nat) (p : Nat) (i : Int) (w : World) :
    CallsIn Fence.wide n Try.prog 153 #[.pointer (some ⟨p, 0, none⟩), .int .i64 i] w fun e w' => e = .returned (.func (.func 170) #[] #[.pointer (some ⟨w.heap.size, 0, none⟩), .pointer (some ⟨w.heap.size + 1, 0, none⟩)]) ∧ w' = (w.alloc (.cells #[.pointer (some ⟨p, 0, none⟩)] 116)).alloc (.cells #[.int .i64 i] 3) := by
  refine callsIn_of_wp Try.func153 rfl trivial ?_ rfl
  simp only [Try.ntmps153, List.size_toArray, List.length_cons, List.length_nil, Nat.reduceAdd, Nat.reduceSub, Array.replicate_succ, Array.replicate_zero, List.push_toArray, List.append_toArray, List.nil_append, List.cons_append]
  gi_wp2
  go_ret
  exact ⟨rfl, rfl⟩

theorem beside_stops (n Bt Bi n₀ D p f i : Nat) (zs : List Int) (w : World) (h40 : zs.length ≤ 40) (hi : i < zs.length) (hBt : Bt < w.heap.size) (hBi : Bi < w.heap.size) (hn₀ : n₀ ≤ w.heap.size)
    (hc : w.cell? ⟨Bt, 0, none⟩ = some (.pointer (some ⟨p, 0, none⟩))) (hd : w.cell? ⟨Bi, 0, none⟩ = some (.int .i64 i)) (ht : TreeLo n₀ D f w p zs) :
    SeqStopsK Fence.wide n Try.prog 170 #[.pointer (some ⟨Bt, 0, none⟩), .pointer (some ⟨Bi, 0, none⟩)] (fun x : Int => #[Value.int .i64 x]) (Kb n₀ D) (fun ys => ys = Tm.prf zs i) (fun pre => pre <+: Tm.prf zs i) (Tm.prf zs i).length w := fun l J Jx W hW hJ _ hY h0 =>
  c170 l n₀ D Bt Bi n zs i p f J Jx (fun s A B hs hg => hJ s A B none hs hg (fun r e => by cases e)) hY W h40 hi (ht.below (Kb.of (hW.mono hn₀)) _ _ _) (Nat.le_trans hn₀ hW.size) ((hW.cell (p := ⟨Bt, 0, none⟩) hBt).trans hc) ((hW.cell (p := ⟨Bi, 0, none⟩) hBi).trans hd) h0

theorem prf_fits {zs : List Int} {i : Nat} (h : zs.length ≤ 40) (hok : Tm.okAll zs = true) : Fits (Tm.prf zs i) := by
  have h1 := Tm.prf_ok _ zs i (Nat.le_refl _) h hok
  intro z hz
  obtain ⟨k, hk, rfl⟩ := List.getElem_of_mem hz
  have := Tm.okAll_at h1 hk
  rw [Tm.getD_eq hk] at this
  exact ok_fits this
theorem own_weaken {w : World} {base base' e size : Nat} {v : Value} {n : Nat} {xs : List Value} (h : w.ownsRow base e size v n xs) (hb : base' ≤ base) : w.ownsRow base' e size v n xs := by
  refine ⟨h.1, ?_⟩
  rcases h.2 with h2 | ⟨g, cap, cur, h3, h4, r⟩
  · exact Or.inl h2
  · exact Or.inr ⟨g, cap, cur, h3, Nat.le_trans hb h4, r⟩
/-- one number more, told into the list that a box holds: what it leaves -/
theorem boxed_append {W w4 : World} {n₀ B b₀ : Nat} {v v' : Value} {k m : Nat} {xs ys : List Value} {tmp : Obj} (hv : Boxed W B 28 v) (hrow : W.ownsRow n₀ 3 1 v k xs) (hn : n₀ ≤ W.heap.size ∧ b₀ ≤ B ∧ B < n₀)
    (hown' : w4.ownsRow n₀ 3 1 v' m ys) (hgrow : (W.alloc tmp).grownBy w4 v.ownBlock) :
    Boxed w4 B 28 v ∧ Boxed (w4.setCell ⟨B, 0, none⟩ v') B 28 v' ∧ (w4.setCell ⟨B, 0, none⟩ v').ownsRow n₀ 3 1 v' m ys ∧ KeepsOthers W (w4.setCell ⟨B, 0, none⟩ v') ∧ Below b₀ W (w4.setCell ⟨B, 0, none⟩ v') ∧ Kb n₀ B W (w4.setCell ⟨B, 0, none⟩ v') := by
  obtain ⟨h1, h2, h3⟩ := hn
  obtain ⟨a1, a2, a3, a4, a5⟩ := hv.appended (n₀ := b₀) (by decide) (own_weaken hrow (by omega)) (by omega) h2 (own_weaken hown' (by omega)) hgrow
  refine ⟨a1, a2, hown'.kept (grownBy_setCell' w4 B v') (.inr (a1.not_row (by decide) hown').symm), a4, a5, a5.size, fun i hi hd => ?_⟩
  rw [Below.heap_setCell _ _ _ _ (by simpa using hd), hgrow.block i (by simp; omega) ?_, Below.heap_alloc _ _ _ (by omega)]
  intro e
  have := (hrow.lt i e.symm).1
  omega

set_option maxRecDepth 100000 in
set_option maxHeartbeats 1000000 in
theorem c121 (zs : List Int) (i : Int) (ao : Option Addr) (n cap : Nat) (w : World) (hn : zs.length = n) (hcap : n ≤ cap) (hb : n ≤ 1048576) (hr : Row w ao zs) :
    Calls Try.prog 121 #[.slice ao n cap, .int .i64 i] w (Told w (Tm.treProof zs i)) := by
  refine (callsIn_wide (n := 5)).1 ?_
  have hdd : ∀ k : Nat, (Fence.wide.depth.isSome = true → 1 ≤ k) := fun k h => by cases h
  have HR := hide hr
  have HN := hide hn
  have HE : Hid (Own w w.heap.size (.slice none 0 0) []) := ⟨fun z hz => by simp at hz, World.ownsRow_nil _ _ _ _⟩
  clear hr hn
  obtain ⟨i0, hi0, hz0, hz1, hz2⟩ := info_parts Try.info3
  rcases ho : Tm.treOk zs with _ | _
  · have HU := hide (treProof_no (zs := zs) (i := i) (by rw [ho]; simp))
    refine callsIn_of_wp_marks Try.func121 rfl trivial ?_ rfl
    simp only [Try.ntmps121, List.size_toArray, List.length_cons, List.length_nil, Nat.reduceAdd, Nat.reduceSub, Array.replicate_succ, Array.replicate_zero, List.push_toArray, List.append_toArray, List.nil_append, List.cons_append]
    gi_wp2_with fail
    refine ⟨trivial, ?_⟩
    refine (callsIn_wide.2 (c127 zs _ _ _ _ (unhide HN) (by omega) (unhide HR))).mono ?_
    rintro e w1 ⟨rfl, rfl⟩
    gi_wp2_with fail
    exact ⟨_, results_tmp rfl _ _ _, _, rfl, by rw [unhide HU]; exact unhide HE, Below.refl _ _⟩
  by_cases hneg : i < 0
  · have HU := hide (treProof_no (zs := zs) (i := i) (by omega))
    refine callsIn_of_wp_marks Try.func121 rfl trivial ?_ rfl
    simp only [Try.ntmps121, List.size_toArray, List.length_cons, List.length_nil, Nat.reduceAdd, Nat.reduceSub, Array.replicate_succ, Array.replicate_zero, List.push_toArray, List.append_toArray, List.nil_append, List.cons_append]
    gi_wp2_with fail
    refine ⟨trivial, ?_⟩
    refine (callsIn_wide.2 (c127 zs _ _ _ _ (unhide HN) (by omega) (unhide HR))).mono ?_
    rintro e w1 ⟨rfl, rfl⟩
    gi_wp2_with fail
    exact ⟨_, results_tmp rfl _ _ _, _, rfl, by rw [unhide HU]; exact unhide HE, Below.refl _ _⟩
  have dneg : decide (i < 0) = false := by simpa using hneg
  by_cases hbig : (n : Int) ≤ i
  · have HU := hide (treProof_no (zs := zs) (i := i) (by have := unhide HN; omega))
    refine callsIn_of_wp_marks Try.func121 rfl trivial ?_ rfl
    simp only [Try.ntmps121, List.size_toArray, List.length_cons, List.length_nil, Nat.reduceAdd, Nat.reduceSub, Array.replicate_succ, Array.replicate_zero, List.push_toArray, List.append_toArray, List.nil_append, List.cons_append]
    gi_wp2_with fail
    refine ⟨trivial, ?_⟩
    refine (callsIn_wide.2 (c127 zs _ _ _ _ (unhide HN) (by omega) (unhide HR))).mono ?_
    rintro e w1 ⟨rfl, rfl⟩
    gi_wp2_with fail
    exact ⟨_, results_tmp rfl _ _ _, _, rfl, by rw [unhide HU]; exact unhide HE, Below.refl _ _⟩
  have dbig : decide ((n : Int) ≤ i) = false := by simpa using hbig
  have HU := hide (treProof_of (zs := zs) (i := i) ⟨ho, by omega, by have := unhide HN; omega⟩)
  obtain ⟨t1, t2⟩ := treOk_len ho
  have HA := hide t2
  rw [unhide HN] at t1
  obtain ⟨iN, rfl⟩ := Int.eq_ofNat_of_zero_le (show 0 ≤ i by omega)
  rw [Int.toNat_natCast] at HU
  have h1 : 1 ≤ 5 := by omega
  refine callsIn_of_wp_marks Try.func121 rfl trivial ?_ rfl
  simp only [Try.ntmps121, List.size_toArray, List.length_cons, List.length_nil, Nat.reduceAdd, Nat.reduceSub, Array.replicate_succ, Array.replicate_zero, List.push_toArray, List.append_toArray, List.nil_append, List.cons_append]
  gi_wp2_with fail
  refine ⟨trivial, ?_⟩
  refine (callsIn_wide.2 (c127 zs _ _ _ _ (unhide HN) (by omega) (unhide HR))).mono ?_
  rintro e w1 ⟨rfl, rfl⟩
  have hb0 : Below w1.heap.size w1 (w1.alloc (.cells #[.slice none 0 0] 28)) := (Below.refl _ _).alloc (Nat.le_refl _) _
  have HRa := hide ((unhide HR).below hb0 (Nat.le_refl _))
  have HB0 := hide hb0
  have bP := Boxed.new w1 28 (.slice none 0 0)
  have BP := hide bP
  clear hb0 bP
  gi_wp2_with fail
  refine ⟨trivial, ?_⟩
  refine (callsIn_wide.2 (c128 n zs _ _ _ _ (by rw [unhide HN]; exact Nat.le_refl _) (unhide HN) t1 hcap (unhide HA) (unhide HRa))).mono ?_
  rintro e w2 ⟨p, rfl, ht, hb2⟩
  have bP2 : Boxed w2 w1.heap.size 28 (.slice none 0 0) := (hb2.block _ (unhide BP).lt).trans (unhide BP)
  have BP2 := hide bP2
  have HB2 := hide (below_then (unhide HB0) hb2)
  have HT := hide ht
  clear bP2 hb2 ht
  gi_wp2_with fail
  refine ⟨trivial, ?_⟩
  refine (c153 _ _ _ _).mono ?_
  rintro e w3 ⟨rfl, rfl⟩
  have hb3 : Below w2.heap.size w2 ((w2.alloc (.cells #[.pointer (some ⟨p, 0, none⟩)] 116)).alloc (.cells #[.int .i64 iN] 3)) := ((Below.refl _ w2).alloc (Nat.le_refl _) _).alloc (by simp) _
  have hb4 := below_then (unhide HB2) hb3
  have bT : Boxed ((w2.alloc (.cells #[.pointer (some ⟨p, 0, none⟩)] 116)).alloc (.cells #[.int .i64 iN] 3)) w2.heap.size 116 (.pointer (some ⟨p, 0, none⟩)) := (Boxed.new w2 116 _).alloc _
  have bI : Boxed ((w2.alloc (.cells #[.pointer (some ⟨p, 0, none⟩)] 116)).alloc (.cells #[.int .i64 iN] 3)) (w2.heap.size + 1) 3 (.int .i64 iN) := by
    have := Boxed.new (w2.alloc (.cells #[.pointer (some ⟨p, 0, none⟩)] 116)) 3 (.int .i64 iN)
    rwa [World.size_alloc] at this
  have bP3 := ((unhide BP2).alloc (.cells #[.pointer (some ⟨p, 0, none⟩)] 116)).alloc (.cells #[.int .i64 iN] 3)
  have hlo := ((TreeLo.of (unhide BP2) _ _ _ (unhide HT)).below (Kb.of hb3) _ _ _).mono hb3.size _ _ _
  have hpl := Tm.prf_len6 (l := zs) iN (by have := unhide HN; omega)
  have hw12 : w1.heap.size < w2.heap.size := (unhide BP2).lt
  have HFits := hide (prf_fits (zs := zs) (i := iN) (by have := unhide HN; omega) t2)
  generalize hW3 : (w2.alloc (.cells #[.pointer (some ⟨p, 0, none⟩)] 116)).alloc (.cells #[.int .i64 iN] 3) = W3 at *
  have hs3 : W3.heap.size = w2.heap.size + 2 := by rw [← hW3]; simp
  clear hW3 hb3
  gi_wp2_with fail
  refine wpIn_rangeFunc_ownG rfl h1 (gf := 170) (lb := #[.pointer (some ⟨w2.heap.size, 0, none⟩), .pointer (some ⟨w2.heap.size + 1, 0, none⟩)]) rfl trivial (enters_of Try.func170 (by kernel_rfl) rfl)
    (beside_stops _ w2.heap.size (w2.heap.size + 1) W3.heap.size w1.heap.size p (n + 1) iN zs W3 (by have := unhide HN; omega) (by have := unhide HN; omega) (by omega) (by omega) (Nat.le_refl _) bT.cell bI.cell hlo)
    (fun h k => h.trans k) (fun W l o o' hl hk hc hw => Kb.of (belowK_b (Nat.le_refl _) W l o o' hl hk hc hw)) (Below.refl _ _) (fun _ => rfl)
    (fun (pre : List Int) W => (∃ v, Boxed W w1.heap.size 28 v ∧ W.ownsRow W3.heap.size 3 1 v pre.length (pre.map (Value.int .i64)) ∧ True) ∧ (Below w1.heap.size w1 W ∧ W3.heap.size ≤ W.heap.size))
    (fun _ _ _ => False)
    (OwnFrom.and (Own.from (holdsRow_own W3.heap.size w1.heap.size 28 3 1 (fun (pre : List Int) => pre.length) (fun (pre : List Int) => pre.map (Value.int .i64)) (fun pre v => True)) _) (OwnFrom.and (ownFrom_below (Nat.le_refl _) (by omega)) (fun _ _ _ _ hs hg _ => Nat.le_trans hs hg.size)))
    (fun _ _ _ _ _ hs _ _ => hs)
    ⟨⟨_, bP3, World.ownsRow_nil _ _ _ _, trivial⟩, hb4, Nat.le_refl _⟩
    (fun x => { tmps := #[.slice ao n cap, .int .i64 iN, undef, undef, .slice none 0 0, .pointer (some ⟨w1.heap.size, 0, none⟩), .int .i64 x, .slice ao n cap, .bool true, .bool false, .bool false, .int .i64 iN, .bool false, .bool false, .bool false, .int .i64 iN, .slice ao n cap, .int .i64 n, .bool false, .bool false, .slice ao n cap, .pointer (some ⟨p, 0, none⟩), .int .i64 iN, .func (.func 170) #[] #[.pointer (some ⟨w2.heap.size, 0, none⟩), .pointer (some ⟨w2.heap.size + 1, 0, none⟩)], .int .i64 x, undef, undef, undef, undef, undef], defers := [] }) ?assign ?body ?done ?stop
  case assign =>
    intro l x W K hK
    gi_wp2
    exact hK
  case body =>
    rintro l pre x W ⟨⟨v, hv, hrow, -⟩, hB, hS⟩ hlt
    have hc := hv.cell
    gi_wp2_with (gi_at_builtin; refine wpListIn_append_own _ rfl _ _ 28 rfl W3.heap.size 3 i0 (.int .i64 0) 1 8 Try.underlying28 hi0 hz0 hz1 hz2 rfl (by decide) _ _ _ rfl (hrow.alloc _) ⟨W.heap.size, 0, none⟩ 1 1 [.int .i64 x] rfl rfl (cell_one_new _ _ _) (by simp [Value.oneCell']) (by unfold maxLen; omega) (by omega) (by simp; omega) ?_; intro v' w4 hown' hgrow _; obtain ⟨g', cap', rfl⟩ := ownsRow_succ hown'; have hap := boxed_append (b₀ := w1.heap.size) hv hrow ⟨hS, Nat.le_refl _, by omega⟩ hown' hgrow; obtain ⟨hv1, hv2, hr2, hk2, hb2, hkb⟩ := hap; have hc1 := hv1.cell; have hf1 := hv1.frozen)
    exact ⟨hk2.from _, hkb, ⟨_, hv2, by simpa using hr2, trivial⟩, hB.trans hb2, Nat.le_trans hS hb2.size⟩
  case done =>
    rintro D ys W hD rfl ⟨⟨v, hv, hrow, -⟩, hB, hS⟩ hK
    have hc := hv.cell
    gi_wp2
    refine ⟨by simp, .inl ⟨_, _, rfl, run_takeDeferred hK, ?_⟩⟩
    exact ⟨_, results_tmp rfl _ _ _, v, rfl, ⟨by rw [unhide HU]; exact unhide HFits, by rw [unhide HU]; exact (own_weaken (ownsRow_putObj hrow _ hK rfl) (by omega))⟩, hB.trans (belowK_b (w := w1) (Nat.le_refl _) W D _ _ (by omega) hK rfl rfl)⟩
  case stop =>
    rintro D c pre W _ _ h _
    exact h.elim
end Go.Proofs.Ytjdnengmllamcaa
