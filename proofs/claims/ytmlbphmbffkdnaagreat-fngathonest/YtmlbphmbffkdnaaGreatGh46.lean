/-
  Texts of the proof, what it needs of them: Sets.
-/
import Derived.Carry
import Derived.Lib.SlKeysI
import Derived.Maps.OwnSet
import Derived.OwnWalk
import Derived.Test.YtmlbphmbffkdnaaGreatGh18
import Derived.Test.YtmlbphmbffkdnaaGreatGh31
import Derived.Test.YtmlbphmbffkdnaaGreatGh45
namespace Go.Proofs.YtmlbphmbffkdnaaGreat
open Go.RowKit
set_option linter.unusedVariables false
set_option maxRecDepth 100000

/-! ### the mathematics -/
/-- a number put ahead of the first one that is greater -/
def putI (t : Int) : List Int → List Int
  | [] => [t]
  | z :: r => if t < z then t :: z :: r else z :: putI t r
theorem putI_mem {t x : Int} : ∀ {zs : List Int}, x ∈ putI t zs ↔ x = t ∨ x ∈ zs
  | [] => by simp [putI]
  | z :: r => by
    unfold putI
    split
    · simp
    · rw [List.mem_cons, putI_mem, List.mem_cons]
      constructor
      · rintro (h | h | h)
        · exact .inr (.inl h)
        · exact .inl h
        · exact .inr (.inr h)
      · rintro (h | h | h)
        · exact .inr (.inl h)
        · exact .inl h
        · exact .inr (.inr h)
theorem putI_len (t : Int) : ∀ zs : List Int, (putI t zs).length = zs.length + 1
  | [] => rfl
  | z :: r => by
    unfold putI
    split
    · simp
    · simp [putI_len t r]
theorem putI_end {t : Int} : ∀ {l : List Int}, (∀ z ∈ l, ¬ t < z) → putI t l = l ++ [t]
  | [], _ => rfl
  | z :: r, h => by
    unfold putI
    rw [if_neg (h z List.mem_cons_self), putI_end (fun y hy => h y (List.mem_cons_of_mem _ hy))]; rfl
theorem putI_hit {t x : Int} : ∀ {l : List Int}, (∀ z ∈ l, ¬ t < z) → t < x → putI t (l ++ [x]) = l ++ [t] ++ [x]
  | [], _, hx => by simp [putI, hx]
  | z :: r, h, hx => by
    show putI t (z :: (r ++ [x])) = _
    unfold putI
    rw [if_neg (h z List.mem_cons_self), putI_hit (fun y hy => h y (List.mem_cons_of_mem _ hy)) hx]; rfl
theorem putI_on {t x : Int} : ∀ {l : List Int}, (∃ z ∈ l, t < z) → putI t (l ++ [x]) = putI t l ++ [x]
  | [], h => by obtain ⟨z, hz, _⟩ := h; simp at hz
  | z :: r, h => by
    show putI t (z :: (r ++ [x])) = _
    unfold putI
    by_cases hz : t < z
    · rw [if_pos hz, if_pos hz]; rfl
    · rw [if_neg hz, if_neg hz, putI_on (by
        obtain ⟨y, hy, h2⟩ := h
        rcases List.mem_cons.1 hy with rfl | hy
        · exact absurd h2 hz
        · exact ⟨y, hy, h2⟩)]; rfl
theorem putI_sorted {t : Int} : ∀ {zs : List Int}, zs.Pairwise (· < ·) → t ∉ zs → (putI t zs).Pairwise (· < ·)
  | [], _, _ => by simp [putI]
  | z :: r, h, hn => by
    obtain ⟨h1, h2⟩ := List.pairwise_cons.1 h
    unfold putI
    split
    · rename_i hz
      refine List.pairwise_cons.2 ⟨fun y hy => ?_, h⟩
      rcases List.mem_cons.1 hy with rfl | hy
      · exact hz
      · exact Int.lt_trans hz (h1 y hy)
    · rename_i hz
      have hne : z ≠ t := fun e => hn (by rw [e]; exact List.mem_cons_self)
      refine List.pairwise_cons.2 ⟨fun y hy => ?_, putI_sorted h2 (fun h3 => hn (List.mem_cons_of_mem _ h3))⟩
      rcases putI_mem.1 hy with rfl | hy
      · omega
      · exact h1 y hy
/-- numbers, each once, rising -/
def riseOf (zs : List Int) : List Int := zs.foldl (fun out z => if hasB out z = true then out else putI z out) []
theorem rise_inv : ∀ (zs out : List Int), out.Pairwise (· < ·) → (zs.foldl (fun out z => if hasB out z = true then out else putI z out) out).Pairwise (· < ·) ∧ ∀ x, x ∈ zs.foldl (fun out z => if hasB out z = true then out else putI z out) out ↔ x ∈ out ∨ x ∈ zs
  | [], out, h => ⟨h, fun x => by simp⟩
  | z :: r, out, h => by
    rw [List.foldl_cons]
    by_cases hz : hasB out z = true
    · rw [if_pos hz]
      obtain ⟨a, b⟩ := rise_inv r out h
      refine ⟨a, fun x => ?_⟩
      rw [b x, List.mem_cons]
      constructor
      · rintro (h1 | h1)
        · exact .inl h1
        · exact .inr (.inr h1)
      · rintro (h1 | h1 | h1)
        · exact .inl h1
        · rw [h1]; exact .inl (hasB_iff.1 hz)
        · exact .inr h1
    · rw [if_neg hz]
      obtain ⟨a, b⟩ := rise_inv r (putI z out) (putI_sorted h (fun h3 => hz (hasB_iff.2 h3)))
      refine ⟨a, fun x => ?_⟩
      rw [b x, putI_mem, List.mem_cons]
      constructor
      · rintro ((h1 | h1) | h1)
        · exact .inr (.inl h1)
        · exact .inl h1
        · exact .inr (.inr h1)
      · rintro (h1 | h1 | h1)
        · exact .inl (.inr h1)
        · exact .inl (.inl h1)
        · exact .inr h1
theorem rise_sorted (zs : List Int) : (riseOf zs).Pairwise (· < ·) := (rise_inv zs [] List.Pairwise.nil).1
theorem rise_mem {zs : List Int} {x : Int} : x ∈ riseOf zs ↔ x ∈ zs := by have := (rise_inv zs [] List.Pairwise.nil).2 x; simpa [riseOf] using this
theorem rising_eq : ∀ {a b : List Int}, a.Pairwise (· < ·) → b.Pairwise (· < ·) → (∀ x, x ∈ a ↔ x ∈ b) → a = b
  | [], [], _, _, _ => rfl
  | [], y :: s, _, _, h => absurd ((h y).2 List.mem_cons_self) (by simp)
  | x :: r, [], _, _, h => absurd ((h x).1 List.mem_cons_self) (by simp)
  | x :: r, y :: s, ha, hb, h => by
    obtain ⟨a1, a2⟩ := List.pairwise_cons.1 ha
    obtain ⟨b1, b2⟩ := List.pairwise_cons.1 hb
    have hxy : x = y := by
      have h1 := (h x).1 List.mem_cons_self
      have h2 := (h y).2 List.mem_cons_self
      rcases List.mem_cons.1 h1 with e | e
      · exact e
      · rcases List.mem_cons.1 h2 with e2 | e2
        · exact e2.symm
        · have := b1 x e; have := a1 y e2; omega
    subst hxy
    rw [rising_eq a2 b2 (fun z => ?_)]
    have hz := h z
    rw [List.mem_cons, List.mem_cons] at hz
    constructor
    · intro hr
      rcases hz.1 (.inr hr) with e | e
      · subst e; exact absurd (a1 z hr) (Int.lt_irrefl _)
      · exact e
    · intro hr
      rcases hz.2 (.inr hr) with e | e
      · subst e; exact absurd (b1 z hr) (Int.lt_irrefl _)
      · exact e
theorem rise_put {zs : List Int} {t : Int} (h : zs.Pairwise (· < ·)) (hn : hasB zs t = false) : riseOf (zs ++ [t]) = putI t zs := by
  have hn2 : t ∉ zs := fun h3 => by rw [hasB_iff.2 h3] at hn; cases hn
  refine rising_eq (rise_sorted _) (putI_sorted h hn2) (fun x => ?_)
  rw [rise_mem, putI_mem, List.mem_append, List.mem_singleton]
  exact Or.comm
theorem gat_rising : ∀ {zs : List Int} {l : Int}, gatFrom l zs = true → zs.Pairwise (· < ·) ∧ ∀ z ∈ zs, l < z ∧ 0 ≤ z ∧ z ≤ 7
  | [], _, _ => ⟨List.Pairwise.nil, fun z hz => by simp at hz⟩
  | t :: r, l, h => by
    unfold gatFrom at h
    simp only [Bool.and_eq_true, decide_eq_true_eq] at h
    obtain ⟨a, b⟩ := gat_rising h.2.2
    refine ⟨List.pairwise_cons.2 ⟨fun z hz => (b z hz).1, a⟩, fun z hz => ?_⟩
    rcases List.mem_cons.1 hz with rfl | hz
    · exact ⟨h.2.1, h.1⟩
    · exact ⟨Int.lt_trans h.2.1 (b z hz).1, (b z hz).2⟩
/-! ### the map -/
/-- what the map holds -/
def setD (zs : List Int) : DataW Unit := Maps.setOf (.agg []) (zs.map (Lit.int .i64))
def SetIs (w : World) (b : Nat) (zs : List Int) : Prop := w.ownsMap Tryz.prog 3 (unitElem (H := Unit)) b zs.length (setD zs)
theorem keyed3 : Maps.Keyed Tryz.prog 3 := Maps.int_keyed Tryz.underlying3
theorem zeroU (w : World) : (zeroValue 98).run Tryz.prog w = .ok (.agg #[]) w := by kernel_rfl
theorem isKey_ints (zs : List Int) : ∀ x ∈ zs.map (Lit.int .i64), WideAt.IsKeyLit x := by
  intro x hx
  obtain ⟨z, _, rfl⟩ := List.mem_map.1 hx
  trivial
theorem has_setD (zs : List Int) (t : Int) : Maps.has (setD zs) (Lit.int .i64 t) = hasB zs t := by
  unfold setD hasB
  rw [Maps.has_setOf _ _ _ (isKey_ints zs), List.any_map]
  congr 1
  funext z
  by_cases h : z = t
  · subst h; simp [Lit.sameKey]
  · simp [Lit.sameKey, h]
theorem setD_keys (zs : List Int) : ∃ es, setD zs = .map es ∧ es.Pairwise (fun p q => p.1 ≠ q.1) ∧ ∀ p ∈ es, ∃ x, p.1 = Lit.int .i64 x := by
  obtain ⟨es, he, hp⟩ := Maps.tidy_setOf (H := Unit) (.agg []) (zs.map (Lit.int .i64)) (isKey_ints zs)
  refine ⟨es, he, hp, ?_⟩
  have key : ∀ (acc : List Lit) (es0 es : List (Lit × DataW Unit)), (∀ x ∈ acc, ∃ y, x = Lit.int .i64 y) → (∀ p ∈ es0, ∃ x, p.1 = Lit.int .i64 x) → acc.foldl (fun (m : DataW Unit) x => DataW.put m x (DataW.agg [])) (DataW.map es0) = DataW.map es → ∀ p ∈ es, ∃ x, p.1 = Lit.int .i64 x := by
    intro acc
    induction acc with
    | nil => intro es0 es _ h0 h p hp; simp only [List.foldl_nil, DataW.map.injEq] at h; subst h; exact h0 p hp
    | cons x r ih =>
      intro es0 es ha h0 h
      rw [List.foldl_cons, DataW.put_eq] at h
      refine ih _ es (fun y hy => ha y (List.mem_cons_of_mem _ hy)) (fun p hp => ?_) h
      unfold ChangeMaps.putKey at hp
      rcases ChangeMaps.mem_insert_iff.1 hp with rfl | hp
      · exact ha x List.mem_cons_self
      · exact h0 p (List.mem_filter.1 hp).1
  exact key _ [] es (fun x hx => by obtain ⟨z, _, rfl⟩ := List.mem_map.1 hx; exact ⟨z, rfl⟩) (fun p hp => by simp at hp) he
theorem nodup_rise (zs : List Int) : (riseOf zs).Nodup := (rise_sorted zs).imp (fun h e => by omega)
theorem perm_rise (zs : List Int) : (riseOf zs).Perm (intKeys (setD zs)) := by
  obtain ⟨es, he, hp, hk⟩ := setD_keys zs
  rw [he]
  refine perm_intKeys hp hk (nodup_rise zs) (fun x => ?_)
  rw [← he, has_setD, hasB_iff, rise_mem]
theorem sort_rise {zs ss : List Int} (h : ss.Perm (intKeys (setD zs))) : ss.mergeSort (fun x y => decide (x ≤ y)) = riseOf zs := by
  have h1 := mergeSort_of_perm_i (h.trans (perm_rise zs).symm)
  have h2 : (riseOf zs).mergeSort leI = riseOf zs := List.mergeSort_of_pairwise ((rise_sorted zs).imp (fun h => by simp only [leI, decide_eq_true_eq]; omega))
  exact h1.trans h2
theorem SetIs.bel {w w' : World} {b : Nat} {zs : List Int} (h : SetIs w b zs) (hb : Below w.heap.size w w') : SetIs w' b zs := World.ownsMap.kept h (below_grown0 hb none) (by simp)
theorem SetIs.kg {w w' : World} {b r : Nat} {zs : List Int} (h : SetIs w b zs) (hg : w.grownBy w' (some r)) (hr : r ≠ b) : SetIs w' b zs := World.ownsMap.kept h hg (fun e => by cases e; exact hr rfl)
theorem SetIs.oth {w : World} {b g i : Nat} {zs : List Int} (h : SetIs w b zs) (v : Value) (hg : g ≠ b) : SetIs (w.setCell ⟨g, i, none⟩ v) b zs := h.kg (grown_cel w g i v) hg
theorem SetIs.lt {w : World} {b : Nat} {zs : List Int} (h : SetIs w b zs) : b < w.heap.size := World.ownsMap.lt h
theorem wf_of {x : Int} (h : -9223372036854775808 ≤ x ∧ x ≤ 9223372036854775807) : (Lit.int .i64 x).wf = true := by
  simp only [Lit.wf, Bool.and_eq_true, decide_eq_true_eq]
  exact h
theorem row_lt {w : World} {ao : Option Addr} {zs : List Int} (h : Row w ao zs) (hz : zs ≠ []) : ∀ a, ao = some a → a.block < w.heap.size := by
  intro a ha
  obtain ⟨b, off, e, hc⟩ := h.2 hz
  rw [e] at ha
  cases ha
  exact World.block_lt_of_cell? w _ (hc 0 (List.length_pos_iff.2 hz))

set_option maxHeartbeats 4000000 in
theorem c37 (b : Nat) (zs ys : List Int) (ao : Option Addr) (n cap : Nat) (w : World) (hs : SetIs w b zs) (hn : ys.length = n) (hm : n ≤ 1048576) (hzl : zs.length ≤ 1000000000) (hr : Row w ao ys) (hap : ys ≠ [] → ∀ a, ao = some a → a.block ≠ b) :
    Calls Tryz.prog 37 #[.map (some b), .slice ao n cap] w fun e w' => e = .returned (.tuple #[]) ∧ SetIs w' b (zs ++ ys) ∧ w.grownBy w' (some b) := by
  have HR := hide hr
  have HN := hide hn
  have HS := hide hs
  clear hr hn hs
  go_enter Tryz.func37, Tryz.ntmps37
  go_wp2_with fail
  go_loopw [8] (fun i wr => ∃ k : Nat, k ≤ n ∧ i = .int .i64 k ∧ SetIs wr b (zs ++ ys.take k) ∧ w.grownBy wr (some b)) (fun i _ => n - (RowKit.intOf i).toNat)
  case atStart => exact ⟨0, Nat.zero_le _, rfl, by rw [List.take_zero, List.append_nil]; exact unhide HS, grown_rf w _⟩
  case round =>
    obtain ⟨k, hk, rfl, hsw, hg⟩ := hrel
    clear HS
    have HS := hide hsw
    have HG := hide hg
    clear hsw hg
    obtain ⟨WA, hWA⟩ : ∃ A : World, A = wr := ⟨_, rfl⟩
    subst hWA
    by_cases hlt : k < n
    case neg =>
      obtain rfl : k = n := by omega
      go_wp2_with fail
      go_end0
      refine ⟨rfl, ?_, unhide HG⟩
      have h := unhide HS
      rw [List.take_of_length_le (by rw [unhide HN]; exact Nat.le_refl _)] at h
      exact h
    have hne : ys ≠ [] := fun e => by have := unhide HN; rw [e] at this; simp at this; omega
    obtain ⟨x, hx⟩ := i_at (zs := ys) (k := k) (by rw [unhide HN]; exact hlt)
    have HRw := hide ((unhide HR).kpt (unhide HG) (fun a ha e => hap hne a ha (by simpa using e)))
    obtain ⟨b2, off, rfl, hc, hxb⟩ := (unhide HRw).get hx
    have hkey : keyOf Tryz.prog 3 (.int .i64 x) = some (.int .i64 x) := Maps.keyOf_int_mk Tryz.underlying3 (wf_of hxb)
    have HXX := hide hx
    have hle : (zs ++ ys.take k).length < maxLen := by
      rw [List.length_append, List.length_take]
      unfold maxLen
      omega
    have HLE := hide hle
    clear hx hle
    go_wp2_with (first | (at_mapUpdate; refine wpList_mapUpdate_own _ rfl _ _ _ 63 rfl 3 98 keyed3 Tryz.underlying63 (unitElem (H := Unit)) b (zs ++ ys.take k).length _ rfl (unhide HS) (unhide HLE) _ _ _ rfl rfl hkey _ [] unitElem_mk ?_; intro w1 hown1 hgrow1) | fail)
    have hk2 : zs ++ ys.take (k + 1) = zs ++ ys.take k ++ [x] := by
      obtain ⟨h1, rfl⟩ := List.getElem?_eq_some_iff.1 (unhide HXX)
      rw [List.take_succ_eq_append_getElem h1, List.append_assoc]
    have HS2 : Hid (SetIs w1 b (zs ++ ys.take (k + 1))) := by
      unfold Hid SetIs
      rw [hk2, List.length_append, List.length_singleton]
      unfold setD
      rw [List.map_append]
      simp only [List.map_cons, List.map_nil]
      rw [Maps.setOf_snoc]
      exact hown1
    have HG2 := hide (grown_tr (unhide HG) hgrow1)
    clear hown1 hgrow1 HS HG hk2
    go_roundw
    case rel => exact ⟨k + 1, by omega, by go_num, unhide HS2, unhide HG2⟩
    case measure => simp [RowKit.intOf]; omega

set_option maxHeartbeats 4000000 in
theorem c33 (ys : List Int) (ao : Option Addr) (n cap : Nat) (w : World) (hn : ys.length = n) (hm : n ≤ 1048576) (hr : Row w ao ys) :
    Calls Tryz.prog 33 #[.slice ao n cap] w fun e w' => e = .returned (.map (some w.heap.size)) ∧ SetIs w' w.heap.size ys ∧ Below w.heap.size w w' := by
  have hmm := @run_makeMap Tryz.prog
  have HR := hide hr
  clear hr
  go_enter Tryz.func33, Tryz.ntmps33
  go_wp2_with fail
  refine (c37 w.heap.size [] ys ao n cap (w.alloc (.map #[] 0)) (World.ownsMap_made _ _ _ _) hn hm (by simp) ((unhide HR).bel (below_a _)) (fun hne a ha => Nat.ne_of_lt (row_lt (unhide HR) hne a ha))).mono ?_
  rintro e w1 ⟨rfl, hs, hg⟩
  have HS := hide hs
  have HB := hide (Below.grown (below_a (.map #[] 0)) hg (by simp) (fun k hk => by cases hk; exact Nat.le_refl _))
  clear hs hg
  go_wp2_with fail
  go_ret
  exact ⟨rfl, unhide HS, unhide HB⟩

set_option maxHeartbeats 4000000 in
theorem c35 (b : Nat) (zs : List Int) (t : Int) (w : World) (hs : SetIs w b zs) (ht : -9223372036854775808 ≤ t ∧ t ≤ 9223372036854775807) :
    Calls Tryz.prog 35 #[.map (some b), .int .i64 t] w fun e w' => e = .returned (.bool (hasB zs t)) ∧ Below w.heap.size w w' := by
  have hkey : keyOf Tryz.prog 3 (.int .i64 t) = some (.int .i64 t) := Maps.keyOf_int_mk Tryz.underlying3 (wf_of ht)
  have HS := hide hs
  clear hs
  go_enter Tryz.func35, Tryz.ntmps35
  go_wp2_with (first | (at_lookup; refine wpList_lookup_own_unit _ rfl _ _ 63 rfl 3 98 keyed3 Tryz.underlying63 (zeroU _) b _ _ rfl (unhide HS) _ _ rfl hkey ?_; rw [has_setD]) | fail)
  go_ret
  exact ⟨rfl, below_a _⟩
end Go.Proofs.YtmlbphmbffkdnaaGreat
