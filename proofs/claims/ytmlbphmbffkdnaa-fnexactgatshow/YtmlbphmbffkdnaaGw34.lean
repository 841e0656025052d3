/-
  Texts of the proof, what it needs of them: Gato.
-/
import Derived.Test.YtmlbphmbffkdnaaGw13
import Derived.Test.YtmlbphmbffkdnaaGw28
import Derived.Test.YtmlbphmbffkdnaaGw29
namespace Go.Proofs.Ytmlbphmbffkdnaa
open Go.RowKit
set_option linter.unusedVariables false
set_option maxRecDepth 100000

/-- a gate as a value: its head, and where the tickets lie -/
abbrev gatV (s l o : Int) (v : Value) : Value := .agg #[.int .i64 s, .int .i64 l, .int .i64 o, v]
def GTold (w : World) (s l o : Int) (zs : List Int) (e : Ending) (w' : World) : Prop := ∃ v, e = .returned (gatV s l o v) ∧ Own w' w.heap.size v zs ∧ Below w.heap.size w w'
theorem load_gat {W : World} {g : Nat} {a b c : Int} {v : Value} (h : Box W g [.int .i64 a, .int .i64 b, .int .i64 c, v]) : (Go.loadVar 63 ⟨g, 0, none⟩).run Try.prog W = .ok (gatV a b c v) W := by
  have c0 := h.cell 0 rfl
  have c1 := h.cell 1 rfl
  have c2 := h.cell 2 rfl
  have c3 := h.cell 3 rfl
  simp [go_sem, c0, c1, c2, c3]
theorem own_none (w : World) (base : Nat) (hb : base ≤ w.heap.size) : Own w base (.slice none 0 0) [] := ⟨fun z hz => by simp at hz, owns_nil w base 1 3 hb⟩
theorem Own.any {w : World} {base : Nat} {v : Value} {zs : List Int} (h : Own w base v zs) : ∃ ao cap, v = .slice ao zs.length cap ∧ zs.length ≤ cap ∧ (ao = none → cap = 0) ∧ Row w ao zs ∧ ∀ a, ao = some a → base ≤ a.block ∧ a.block < w.heap.size := by
  obtain ⟨ao, cap, rfl, h1, h2, h3⟩ := h.row
  exact ⟨ao, cap, rfl, h1, fun e => by subst e; exact own_cap0 h, h2, h3⟩
/-- tickets, each one, each behind the one ahead -/
def gatFrom (l : Int) : List Int → Bool
  | [] => true
  | t :: r => decide (0 ≤ t ∧ t ≤ 7) && (decide (l < t) && gatFrom t r)
def gatOk (s l o : Int) (zs : List Int) : Bool := hedOk s l o && gatFrom (-1) zs
theorem gat_bad {l t : Int} {r : List Int} (h : decide (0 ≤ t ∧ t ≤ 7) = false) : gatFrom l (t :: r) = false := by unfold gatFrom; rw [h]; rfl
theorem gat_low {l t : Int} {r : List Int} (h : t ≤ l) : gatFrom l (t :: r) = false := by unfold gatFrom; rw [decide_eq_false (show ¬ l < t by omega)]; cases decide (0 ≤ t ∧ t ≤ 7) <;> rfl
theorem gat_on {l t : Int} {r : List Int} (h : decide (0 ≤ t ∧ t ≤ 7) = true) (h2 : ¬ t ≤ l) : gatFrom l (t :: r) = gatFrom t r := by rw [gatFrom, h, decide_eq_true (show l < t by omega)]; rfl
theorem gat_len : ∀ (zs : List Int) (l : Int), gatFrom l zs = true → l ≤ 7 → l + (zs.length : Int) ≤ 7 := by
  intro zs
  induction zs with
  | nil => intro l _ h; simpa using h
  | cons t r ih =>
    intro l h hl
    unfold gatFrom at h
    simp only [Bool.and_eq_true, decide_eq_true_eq] at h
    have := ih t h.2.2 h.1.2
    simp only [List.length_cons]
    omega
theorem gat_long {zs : List Int} (h : (8 : Int) < (zs.length : Int)) : gatFrom (-1) zs = false := by
  rcases e : gatFrom (-1) zs with _ | _
  · rfl
  · have := gat_len zs _ e (by omega); omega
theorem i_at {zs : List Int} {k : Nat} (h : k < zs.length) : ∃ x, zs[k]? = some x := ⟨zs[k], List.getElem?_eq_getElem h⟩
theorem i_drop {hs : List Int} {k : Nat} {x : Int} (h : hs[k]? = some x) : hs.drop k = x :: hs.drop (k + 1) := by
  obtain ⟨hl, rfl⟩ := List.getElem?_eq_some_iff.1 h
  rw [List.drop_eq_getElem_cons hl]
/-- where a number of a list lies -/
theorem Row.get {w : World} {ao : Option Addr} {zs : List Int} (h : Row w ao zs) {k : Nat} {x : Int} (hx : zs[k]? = some x) : ∃ b off, ao = some ⟨b, off, none⟩ ∧ w.cell? ⟨b, off + k, none⟩ = some (.int .i64 x) ∧ -9223372036854775808 ≤ x ∧ x ≤ 9223372036854775807 := by
  obtain ⟨hl, e⟩ := List.getElem?_eq_some_iff.1 hx
  obtain ⟨b, off, rfl, hc⟩ := h.2 (by intro e2; subst e2; simp at hl)
  refine ⟨b, off, rfl, ?_, h.1 x (List.mem_of_getElem? hx)⟩
  have h2 := hc k hl
  rw [show zs.getD k 0 = x by rw [List.getD_eq_getElem?_getD, hx]; rfl] at h2
  exact h2

set_option maxHeartbeats 400000 in
theorem sgI (ao : Option Addr) (n cap l : Nat) (w : World) (hl : l ≤ 1048576) (hn : n ≤ 9223372036854775807) : Calls Try.prog 160 #[.slice ao n cap, .int .i64 (l : Int)] w fun e w' => e = .returned (.int .i64 (if n ≤ l then (l : Int) - (n : Int) else -1)) ∧ w' = w := by
  by_cases h : n ≤ l
  · have HE : Hid ((if n ≤ l then (l : Int) - (n : Int) else -1) = (l : Int) - (n : Int)) := by unfold Hid; rw [if_pos h]
    have h2 : ¬ ((l : Int) - (n : Int) < 0) := by omega
    go_enter Try.func160, Try.ntmps160
    go_wp2_with fail
    go_ret
    exact ⟨rfl, rfl⟩
  · have HE : Hid ((if n ≤ l then (l : Int) - (n : Int) else -1) = -1) := by unfold Hid; rw [if_neg h]
    have h2 : (l : Int) - (n : Int) < 0 := by omega
    go_enter Try.func160, Try.ntmps160
    go_wp2_with fail
    go_ret
    exact ⟨rfl, rfl⟩
set_option maxHeartbeats 2000000 in
theorem sgG (s l o : Int) (ao : Option Addr) (n cap m : Nat) (w : World) (hl : m ≤ 1048576) (hn : n ≤ 9223372036854775807) : Calls Try.prog 87 #[gatV s l o (.slice ao n cap), .int .i64 (m : Int)] w fun e w' => e = .returned (.int .i64 (if n ≤ m then (m : Int) - (n : Int) else -1)) ∧ Below w.heap.size w w' := by
  have HB := hide (Below.refl w.heap.size w)
  replace HB := hide (below_al (o := .cells #[.int .i64 s, .int .i64 l, .int .i64 o, .slice ao n cap] 102) (unhide HB))
  have HX := hide (box_new w [.int .i64 s, .int .i64 l, .int .i64 o, .slice ao n cap] 102 (by simp [Value.oneCell']))
  (try simp only [World.size_alloc] at HX)
  have x0 := (unhide HX).cell 0 rfl
  have x1 := (unhide HX).cell 1 rfl
  have x2 := (unhide HX).cell 2 rfl
  have x3 := (unhide HX).cell 3 rfl
  go_enter Try.func87, Try.ntmps87
  go_wp2_with fail
  refine (sgI ao n cap m _ hl hn).mono ?_
  rintro e w1 ⟨rfl, hww⟩
  have hww := hww.symm
  subst hww
  by_cases h : n ≤ m
  case pos =>
    rw [if_pos h]
    have h2 : ¬ ((m : Int) - (n : Int) < 0) := by omega
    go_wp2_with fail
    go_ret
    exact ⟨rfl, unhide HB⟩
  rw [if_neg h]
  have h2 : (-1 : Int) < 0 := by omega
  go_wp2_with fail
  go_ret
  exact ⟨rfl, unhide HB⟩

set_option maxHeartbeats 8000000 in
theorem c88 (s l o : Int) (zs : List Int) (ao : Option Addr) (n cap : Nat) (w : World) (hn : zs.length = n) (hm : n ≤ 1048576) (hr : Row w ao zs) : Calls Try.prog 88 #[gatV s l o (.slice ao n cap)] w (GTold w s l o zs) := by
  have HA := hide hr
  have HN := hide hn
  clear hr hn
  have HB := hide (Below.refl w.heap.size w)
  replace HB := hide (below_al (o := .cells #[.int .i64 s, .int .i64 l, .int .i64 o, .slice ao n cap] 102) (unhide HB))
  have HX := hide (box_new w [.int .i64 s, .int .i64 l, .int .i64 o, .slice ao n cap] 102 (by simp [Value.oneCell']))
  (try simp only [World.size_alloc] at HX)
  replace HB := hide (below_al (o := .cells #[.int .i64 0, .int .i64 0, .int .i64 0, .slice none 0 0] 63) (unhide HB))
  replace HX := hide ((unhide HX).bel (below_a (.cells #[.int .i64 0, .int .i64 0, .int .i64 0, .slice none 0 0] 63)))
  have HZ := hide (box_new (w.alloc (.cells #[.int .i64 s, .int .i64 l, .int .i64 o, .slice ao n cap] 102)) [.int .i64 0, .int .i64 0, .int .i64 0, .slice none 0 0] 63 (by simp [Value.oneCell']))
  (try simp only [World.size_alloc] at HZ)
  replace HB := hide (below_al (o := .cells #[.int .i64 0, .int .i64 0, .int .i64 0, .slice none 0 0] 63) (unhide HB))
  replace HX := hide ((unhide HX).bel (below_a (.cells #[.int .i64 0, .int .i64 0, .int .i64 0, .slice none 0 0] 63)))
  replace HZ := hide ((unhide HZ).bel (below_a (.cells #[.int .i64 0, .int .i64 0, .int .i64 0, .slice none 0 0] 63)))
  have HY := hide (box_new ((w.alloc (.cells #[.int .i64 s, .int .i64 l, .int .i64 o, .slice ao n cap] 102)).alloc (.cells #[.int .i64 0, .int .i64 0, .int .i64 0, .slice none 0 0] 63)) [.int .i64 0, .int .i64 0, .int .i64 0, .slice none 0 0] 63 (by simp [Value.oneCell']))
  (try simp only [World.size_alloc] at HY)
  have x0 := (unhide HX).cell 0 rfl
  have x1 := (unhide HX).cell 1 rfl
  have x2 := (unhide HX).cell 2 rfl
  have x3 := (unhide HX).cell 3 rfl
  have z0 := (unhide HZ).cell 0 rfl
  have z0f := (unhide HZ).frozen 0 rfl
  have z1 := (unhide HZ).cell 1 rfl
  have z1f := (unhide HZ).frozen 1 rfl
  have z2 := (unhide HZ).cell 2 rfl
  have z2f := (unhide HZ).frozen 2 rfl
  have z3 := (unhide HZ).cell 3 rfl
  have z3f := (unhide HZ).frozen 3 rfl
  have y0 := (unhide HY).cell 0 rfl
  have y0f := (unhide HY).frozen 0 rfl
  have y1 := (unhide HY).cell 1 rfl
  have y1f := (unhide HY).frozen 1 rfl
  have y2 := (unhide HY).cell 2 rfl
  have y2f := (unhide HY).frozen 2 rfl
  have y3 := (unhide HY).cell 3 rfl
  have y3f := (unhide HY).frozen 3 rfl
  go_enter Try.func88, Try.ntmps88
  go_wp2_with fail
  refine (c77 s l o _).mono ?_
  rintro e w1 ⟨rfl, hb⟩
  (try clear x0 x1 x2 x3 z0 z0f z1 z1f z2 z2f z3 z3f y0 y0f y1 y1f y2 y2f y3 y3f)
  replace HB := hide (below_tr (unhide HB) hb)
  replace HX := hide ((unhide HX).bel hb)
  replace HZ := hide ((unhide HZ).bel hb)
  replace HY := hide ((unhide HY).bel hb)
  clear hb
  have x0 := (unhide HX).cell 0 rfl
  have x1 := (unhide HX).cell 1 rfl
  have x2 := (unhide HX).cell 2 rfl
  have x3 := (unhide HX).cell 3 rfl
  have z0 := (unhide HZ).cell 0 rfl
  have z0f := (unhide HZ).frozen 0 rfl
  have z1 := (unhide HZ).cell 1 rfl
  have z1f := (unhide HZ).frozen 1 rfl
  have z2 := (unhide HZ).cell 2 rfl
  have z2f := (unhide HZ).frozen 2 rfl
  have z3 := (unhide HZ).cell 3 rfl
  have z3f := (unhide HZ).frozen 3 rfl
  have y0 := (unhide HY).cell 0 rfl
  have y0f := (unhide HY).frozen 0 rfl
  have y1 := (unhide HY).cell 1 rfl
  have y1f := (unhide HY).frozen 1 rfl
  have y2 := (unhide HY).cell 2 rfl
  have y2f := (unhide HY).frozen 2 rfl
  have y3 := (unhide HY).cell 3 rfl
  have y3f := (unhide HY).frozen 3 rfl
  go_wp2_with fail
  (try clear x0 x1 x2 x3 z0 z0f z1 z1f z2 z2f z3 z3f y0 y0f y1 y1f y2 y2f y3 y3f)
  replace HX := hide ((unhide HX).oth (g' := w.heap.size + 1 + 1) (i := 0) (.int .i64 s) (by omega))
  replace HZ := hide ((unhide HZ).oth (g' := w.heap.size + 1 + 1) (i := 0) (.int .i64 s) (by omega))
  replace HY := hide (box_put (unhide HY) 0 (.int .i64 s) (by simp))
  replace HB := hide (below_sc (p := ⟨w.heap.size + 1 + 1, 0, none⟩) (v := .int .i64 s) (unhide HB) (by dsimp only; omega))
  replace HX := hide ((unhide HX).oth (g' := w.heap.size + 1 + 1) (i := 1) (.int .i64 l) (by omega))
  replace HZ := hide ((unhide HZ).oth (g' := w.heap.size + 1 + 1) (i := 1) (.int .i64 l) (by omega))
  replace HY := hide (box_put (unhide HY) 1 (.int .i64 l) (by simp))
  replace HB := hide (below_sc (p := ⟨w.heap.size + 1 + 1, 1, none⟩) (v := .int .i64 l) (unhide HB) (by dsimp only; omega))
  replace HX := hide ((unhide HX).oth (g' := w.heap.size + 1 + 1) (i := 2) (.int .i64 o) (by omega))
  replace HZ := hide ((unhide HZ).oth (g' := w.heap.size + 1 + 1) (i := 2) (.int .i64 o) (by omega))
  replace HY := hide (box_put (unhide HY) 2 (.int .i64 o) (by simp))
  replace HB := hide (below_sc (p := ⟨w.heap.size + 1 + 1, 2, none⟩) (v := .int .i64 o) (unhide HB) (by dsimp only; omega))
  replace HY := hide (show Box _ (w.heap.size + 1 + 1) [.int .i64 s, .int .i64 l, .int .i64 o, .slice none 0 0] from unhide HY)
  have x0 := (unhide HX).cell 0 rfl
  have x1 := (unhide HX).cell 1 rfl
  have x2 := (unhide HX).cell 2 rfl
  have x3 := (unhide HX).cell 3 rfl
  have z0 := (unhide HZ).cell 0 rfl
  have z0f := (unhide HZ).frozen 0 rfl
  have z1 := (unhide HZ).cell 1 rfl
  have z1f := (unhide HZ).frozen 1 rfl
  have z2 := (unhide HZ).cell 2 rfl
  have z2f := (unhide HZ).frozen 2 rfl
  have z3 := (unhide HZ).cell 3 rfl
  have z3f := (unhide HZ).frozen 3 rfl
  have y0 := (unhide HY).cell 0 rfl
  have y0f := (unhide HY).frozen 0 rfl
  have y1 := (unhide HY).cell 1 rfl
  have y1f := (unhide HY).frozen 1 rfl
  have y2 := (unhide HY).cell 2 rfl
  have y2f := (unhide HY).frozen 2 rfl
  have y3 := (unhide HY).cell 3 rfl
  have y3f := (unhide HY).frozen 3 rfl
  have hgy := (unhide HY).lt
  simp only [World.size_setCell] at hgy
  refine (c89 zs ao n cap _ (unhide HN) hm ((unhide HA).bel (unhide HB))).mono ?_
  rintro e w2 ⟨rfl, ho, hb⟩
  (try simp only [World.size_setCell] at ho)
  (try clear x0 x1 x2 x3 z0 z0f z1 z1f z2 z2f z3 z3f y0 y0f y1 y1f y2 y2f y3 y3f)
  replace HB := hide (below_tr (unhide HB) hb)
  replace HX := hide ((unhide HX).bel hb)
  replace HZ := hide ((unhide HZ).bel hb)
  replace HY := hide ((unhide HY).bel hb)
  have HO := hide (ho)
  clear hb ho
  have x0 := (unhide HX).cell 0 rfl
  have x1 := (unhide HX).cell 1 rfl
  have x2 := (unhide HX).cell 2 rfl
  have x3 := (unhide HX).cell 3 rfl
  have z0 := (unhide HZ).cell 0 rfl
  have z0f := (unhide HZ).frozen 0 rfl
  have z1 := (unhide HZ).cell 1 rfl
  have z1f := (unhide HZ).frozen 1 rfl
  have z2 := (unhide HZ).cell 2 rfl
  have z2f := (unhide HZ).frozen 2 rfl
  have z3 := (unhide HZ).cell 3 rfl
  have z3f := (unhide HZ).frozen 3 rfl
  have y0 := (unhide HY).cell 0 rfl
  have y0f := (unhide HY).frozen 0 rfl
  have y1 := (unhide HY).cell 1 rfl
  have y1f := (unhide HY).frozen 1 rfl
  have y2 := (unhide HY).cell 2 rfl
  have y2f := (unhide HY).frozen 2 rfl
  have y3 := (unhide HY).cell 3 rfl
  have y3f := (unhide HY).frozen 3 rfl
  go_wp2_with fail
  (try clear x0 x1 x2 x3 z0 z0f z1 z1f z2 z2f z3 z3f y0 y0f y1 y1f y2 y2f y3 y3f)
  replace HX := hide ((unhide HX).oth (g' := w.heap.size + 1 + 1) (i := 3) (.slice (some ⟨w1.heap.size, 0, none⟩) n n) (by omega))
  replace HZ := hide ((unhide HZ).oth (g' := w.heap.size + 1 + 1) (i := 3) (.slice (some ⟨w1.heap.size, 0, none⟩) n n) (by omega))
  replace HY := hide (box_put (unhide HY) 3 (.slice (some ⟨w1.heap.size, 0, none⟩) n n) (by simp))
  replace HO := hide ((unhide HO).kg (grown_cel _ (w.heap.size + 1 + 1) 3 (.slice (some ⟨w1.heap.size, 0, none⟩) n n)) (by omega))
  replace HB := hide (below_sc (p := ⟨w.heap.size + 1 + 1, 3, none⟩) (v := .slice (some ⟨w1.heap.size, 0, none⟩) n n) (unhide HB) (by dsimp only; omega))
  replace HY := hide (show Box _ (w.heap.size + 1 + 1) [.int .i64 s, .int .i64 l, .int .i64 o, .slice (some ⟨w1.heap.size, 0, none⟩) n n] from unhide HY)
  have x0 := (unhide HX).cell 0 rfl
  have x1 := (unhide HX).cell 1 rfl
  have x2 := (unhide HX).cell 2 rfl
  have x3 := (unhide HX).cell 3 rfl
  have z0 := (unhide HZ).cell 0 rfl
  have z0f := (unhide HZ).frozen 0 rfl
  have z1 := (unhide HZ).cell 1 rfl
  have z1f := (unhide HZ).frozen 1 rfl
  have z2 := (unhide HZ).cell 2 rfl
  have z2f := (unhide HZ).frozen 2 rfl
  have z3 := (unhide HZ).cell 3 rfl
  have z3f := (unhide HZ).frozen 3 rfl
  have y0 := (unhide HY).cell 0 rfl
  have y0f := (unhide HY).frozen 0 rfl
  have y1 := (unhide HY).cell 1 rfl
  have y1f := (unhide HY).frozen 1 rfl
  have y2 := (unhide HY).cell 2 rfl
  have y2f := (unhide HY).frozen 2 rfl
  have y3 := (unhide HY).cell 3 rfl
  have y3f := (unhide HY).frozen 3 rfl
  (try clear x0 x1 x2 x3 z0 z0f z1 z1f z2 z2f z3 z3f y0 y0f y1 y1f y2 y2f y3 y3f)
  replace HX := hide ((unhide HX).oth (g' := w.heap.size + 1) (i := 0) (.int .i64 s) (by omega))
  replace HZ := hide (box_put (unhide HZ) 0 (.int .i64 s) (by simp))
  replace HY := hide ((unhide HY).oth (g' := w.heap.size + 1) (i := 0) (.int .i64 s) (by omega))
  replace HO := hide ((unhide HO).kg (grown_cel _ (w.heap.size + 1) 0 (.int .i64 s)) (by omega))
  replace HB := hide (below_sc (p := ⟨w.heap.size + 1, 0, none⟩) (v := .int .i64 s) (unhide HB) (by dsimp only; omega))
  replace HX := hide ((unhide HX).oth (g' := w.heap.size + 1) (i := 1) (.int .i64 l) (by omega))
  replace HZ := hide (box_put (unhide HZ) 1 (.int .i64 l) (by simp))
  replace HY := hide ((unhide HY).oth (g' := w.heap.size + 1) (i := 1) (.int .i64 l) (by omega))
  replace HO := hide ((unhide HO).kg (grown_cel _ (w.heap.size + 1) 1 (.int .i64 l)) (by omega))
  replace HB := hide (below_sc (p := ⟨w.heap.size + 1, 1, none⟩) (v := .int .i64 l) (unhide HB) (by dsimp only; omega))
  replace HX := hide ((unhide HX).oth (g' := w.heap.size + 1) (i := 2) (.int .i64 o) (by omega))
  replace HZ := hide (box_put (unhide HZ) 2 (.int .i64 o) (by simp))
  replace HY := hide ((unhide HY).oth (g' := w.heap.size + 1) (i := 2) (.int .i64 o) (by omega))
  replace HO := hide ((unhide HO).kg (grown_cel _ (w.heap.size + 1) 2 (.int .i64 o)) (by omega))
  replace HB := hide (below_sc (p := ⟨w.heap.size + 1, 2, none⟩) (v := .int .i64 o) (unhide HB) (by dsimp only; omega))
  replace HX := hide ((unhide HX).oth (g' := w.heap.size + 1) (i := 3) (.slice (some ⟨w1.heap.size, 0, none⟩) n n) (by omega))
  replace HZ := hide (box_put (unhide HZ) 3 (.slice (some ⟨w1.heap.size, 0, none⟩) n n) (by simp))
  replace HY := hide ((unhide HY).oth (g' := w.heap.size + 1) (i := 3) (.slice (some ⟨w1.heap.size, 0, none⟩) n n) (by omega))
  replace HO := hide ((unhide HO).kg (grown_cel _ (w.heap.size + 1) 3 (.slice (some ⟨w1.heap.size, 0, none⟩) n n)) (by omega))
  replace HB := hide (below_sc (p := ⟨w.heap.size + 1, 3, none⟩) (v := .slice (some ⟨w1.heap.size, 0, none⟩) n n) (unhide HB) (by dsimp only; omega))
  replace HZ := hide (show Box _ (w.heap.size + 1) [.int .i64 s, .int .i64 l, .int .i64 o, .slice (some ⟨w1.heap.size, 0, none⟩) n n] from unhide HZ)
  have x0 := (unhide HX).cell 0 rfl
  have x1 := (unhide HX).cell 1 rfl
  have x2 := (unhide HX).cell 2 rfl
  have x3 := (unhide HX).cell 3 rfl
  have z0 := (unhide HZ).cell 0 rfl
  have z0f := (unhide HZ).frozen 0 rfl
  have z1 := (unhide HZ).cell 1 rfl
  have z1f := (unhide HZ).frozen 1 rfl
  have z2 := (unhide HZ).cell 2 rfl
  have z2f := (unhide HZ).frozen 2 rfl
  have z3 := (unhide HZ).cell 3 rfl
  have z3f := (unhide HZ).frozen 3 rfl
  have y0 := (unhide HY).cell 0 rfl
  have y0f := (unhide HY).frozen 0 rfl
  have y1 := (unhide HY).cell 1 rfl
  have y1f := (unhide HY).frozen 1 rfl
  have y2 := (unhide HY).cell 2 rfl
  have y2f := (unhide HY).frozen 2 rfl
  have y3 := (unhide HY).cell 3 rfl
  have y3f := (unhide HY).frozen 3 rfl
  exact bodyPost_ret (v := gatV s l o (.slice (some ⟨w1.heap.size, 0, none⟩) n n)) (results_c Try.results88 rfl (load_gat (unhide HZ))) rfl ⟨_, rfl, (unhide HO).mono (by omega), unhide HB⟩

set_option maxHeartbeats 4000000 in
theorem sameG (s l o : Int) (zs : List Int) (ao bo : Option Addr) (n cap cap' : Nat) (w : World) (hn : zs.length = n) (hm : n ≤ 1048576) (hr : Row w ao zs) (hr2 : Row w bo zs) : Calls Try.prog 90 #[gatV s l o (.slice ao n cap), gatV s l o (.slice bo n cap')] w fun e w' => e = .returned (.bool true) ∧ Below w.heap.size w w' := by
  have HA := hide hr
  have HC := hide hr2
  have HN := hide hn
  clear hr hr2 hn
  have HB := hide (Below.refl w.heap.size w)
  replace HB := hide (below_al (o := .cells #[.int .i64 s, .int .i64 l, .int .i64 o, .slice ao n cap] 63) (unhide HB))
  replace HA := hide ((unhide HA).bel (below_a (.cells #[.int .i64 s, .int .i64 l, .int .i64 o, .slice ao n cap] 63)))
  replace HC := hide ((unhide HC).bel (below_a (.cells #[.int .i64 s, .int .i64 l, .int .i64 o, .slice ao n cap] 63)))
  have HX := hide (box_new w [.int .i64 s, .int .i64 l, .int .i64 o, .slice ao n cap] 63 (by simp [Value.oneCell']))
  (try simp only [World.size_alloc] at HX)
  replace HB := hide (below_al (o := .cells #[.int .i64 s, .int .i64 l, .int .i64 o, .slice bo n cap'] 63) (unhide HB))
  replace HA := hide ((unhide HA).bel (below_a (.cells #[.int .i64 s, .int .i64 l, .int .i64 o, .slice bo n cap'] 63)))
  replace HC := hide ((unhide HC).bel (below_a (.cells #[.int .i64 s, .int .i64 l, .int .i64 o, .slice bo n cap'] 63)))
  replace HX := hide ((unhide HX).bel (below_a (.cells #[.int .i64 s, .int .i64 l, .int .i64 o, .slice bo n cap'] 63)))
  have HY := hide (box_new (w.alloc (.cells #[.int .i64 s, .int .i64 l, .int .i64 o, .slice ao n cap] 63)) [.int .i64 s, .int .i64 l, .int .i64 o, .slice bo n cap'] 63 (by simp [Value.oneCell']))
  (try simp only [World.size_alloc] at HY)
  have x0 := (unhide HX).cell 0 rfl
  have x1 := (unhide HX).cell 1 rfl
  have x2 := (unhide HX).cell 2 rfl
  have x3 := (unhide HX).cell 3 rfl
  have y0 := (unhide HY).cell 0 rfl
  have y1 := (unhide HY).cell 1 rfl
  have y2 := (unhide HY).cell 2 rfl
  have y3 := (unhide HY).cell 3 rfl
  go_enter Try.func90, Try.ntmps90
  go_wp2_with fail
  refine (c79 s l o s l o _).mono ?_
  rintro e w1 ⟨rfl, hb⟩
  rw [decide_eq_true rfl]
  (try clear x0 x1 x2 x3 y0 y1 y2 y3)
  replace HB := hide (below_tr (unhide HB) hb)
  replace HA := hide ((unhide HA).bel hb)
  replace HC := hide ((unhide HC).bel hb)
  replace HX := hide ((unhide HX).bel hb)
  replace HY := hide ((unhide HY).bel hb)
  clear hb
  have x0 := (unhide HX).cell 0 rfl
  have x1 := (unhide HX).cell 1 rfl
  have x2 := (unhide HX).cell 2 rfl
  have x3 := (unhide HX).cell 3 rfl
  have y0 := (unhide HY).cell 0 rfl
  have y1 := (unhide HY).cell 1 rfl
  have y2 := (unhide HY).cell 2 rfl
  have y3 := (unhide HY).cell 3 rfl
  go_wp2_with fail
  refine (sameI zs _ _ _ _ _ _ (unhide HN) hm (unhide HA) (unhide HC)).mono ?_
  rintro e w2 ⟨rfl, hb⟩
  (try clear x0 x1 x2 x3 y0 y1 y2 y3)
  replace HB := hide (below_tr (unhide HB) hb)
  replace HX := hide ((unhide HX).bel hb)
  replace HY := hide ((unhide HY).bel hb)
  clear HA HC
  clear hb
  have x0 := (unhide HX).cell 0 rfl
  have x1 := (unhide HX).cell 1 rfl
  have x2 := (unhide HX).cell 2 rfl
  have x3 := (unhide HX).cell 3 rfl
  have y0 := (unhide HY).cell 0 rfl
  have y1 := (unhide HY).cell 1 rfl
  have y2 := (unhide HY).cell 2 rfl
  have y3 := (unhide HY).cell 3 rfl
  go_wp2_with fail
  go_ret
  exact ⟨rfl, unhide HB⟩

set_option maxHeartbeats 4000000 in
theorem markG (s l o : Int) (zs : List Int) (base : Nat) (ao : Option Addr) (n cap : Nat) (w : World) (hn : zs.length = n) (hm : n ≤ 1048576) (ho : Own w base (.slice ao n cap) zs) : Calls Try.prog 92 #[gatV s l o (.slice ao n cap), .int .i64 1] w fun e w' => e = .returned (.int .i64 ((n : Int) + 1)) ∧ HldI w' ao zs ∧ w.grownBy w' (Value.slice ao n cap).ownBlock := by
  have HO := hide ho
  have HN := hide hn
  clear ho hn
  have HB := hide (Below.refl w.heap.size w)
  replace HB := hide (below_al (o := .cells #[.int .i64 s, .int .i64 l, .int .i64 o, .slice ao n cap] 63) (unhide HB))
  replace HO := hide ((unhide HO).bel (below_a (.cells #[.int .i64 s, .int .i64 l, .int .i64 o, .slice ao n cap] 63)))
  have HX := hide (box_new w [.int .i64 s, .int .i64 l, .int .i64 o, .slice ao n cap] 63 (by simp [Value.oneCell']))
  (try simp only [World.size_alloc] at HX)
  have x0 := (unhide HX).cell 0 rfl
  have x1 := (unhide HX).cell 1 rfl
  have x2 := (unhide HX).cell 2 rfl
  have x3 := (unhide HX).cell 3 rfl
  go_enter Try.func92, Try.ntmps92
  go_wp2_with fail
  refine (markI zs _ _ _ _ _ (unhide HN) hm (unhide HO)).mono ?_
  rintro e w1 ⟨rfl, hh, hg⟩
  have HH := hide hh
  have HG := hide (grown_tr' (below_grown0 (unhide HB) _) hg)
  clear hh hg x0 x1 x2 x3 HO HB HX
  go_wp2_with fail
  go_ret
  exact ⟨rfl, unhide HH, unhide HG⟩

set_option maxHeartbeats 4000000 in
theorem heldG (s l o : Int) (zs : List Int) (ao : Option Addr) (n cap : Nat) (w : World) (hn : zs.length = n) (hm : n ≤ 1048576) (hr : HldI w ao zs) : Calls Try.prog 94 #[gatV s l o (.slice ao n cap), .int .i64 1] w fun e w' => e = .returned (.int .i64 ((n : Int) + 1)) ∧ Below w.heap.size w w' := by
  have HH := hide hr
  have HN := hide hn
  clear hr hn
  have HB := hide (Below.refl w.heap.size w)
  have hk : ¬ ((n : Int) + 1 < 0) := by omega
  replace HB := hide (below_al (o := .cells #[.int .i64 s, .int .i64 l, .int .i64 o, .slice ao n cap] 63) (unhide HB))
  replace HH := hide ((unhide HH).bel (below_a (.cells #[.int .i64 s, .int .i64 l, .int .i64 o, .slice ao n cap] 63)))
  have HX := hide (box_new w [.int .i64 s, .int .i64 l, .int .i64 o, .slice ao n cap] 63 (by simp [Value.oneCell']))
  (try simp only [World.size_alloc] at HX)
  have x0 := (unhide HX).cell 0 rfl
  have x1 := (unhide HX).cell 1 rfl
  have x2 := (unhide HX).cell 2 rfl
  have x3 := (unhide HX).cell 3 rfl
  go_enter Try.func94, Try.ntmps94
  go_wp2_with fail
  refine (heldI zs _ _ _ _ (unhide HN) hm (unhide HH)).mono ?_
  rintro e w1 ⟨rfl, hww⟩
  have hww := hww.symm
  subst hww
  go_wp2_with fail
  go_ret
  exact ⟨rfl, unhide HB⟩
end Go.Proofs.Ytmlbphmbffkdnaa
