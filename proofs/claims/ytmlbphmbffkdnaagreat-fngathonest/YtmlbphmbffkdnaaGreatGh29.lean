/-
  Texts of the proof, what it needs of them: Lstd, Lsth, Gato, Gatn.
-/
import Derived.Test.YtmlbphmbffkdnaaGreatGh07
import Derived.Test.YtmlbphmbffkdnaaGreatGh08
import Derived.Test.YtmlbphmbffkdnaaGreatGh15
import Derived.Test.YtmlbphmbffkdnaaGreatGh18
import Derived.Test.YtmlbphmbffkdnaaGreatGh26
namespace Go.Proofs.YtmlbphmbffkdnaaGreat
open Go.RowKit
set_option linter.unusedVariables false
set_option maxRecDepth 100000

/-- a ticket that is offered: ticket, seller, price, buyer, due -/
abbrev Tm.Deal := Int × Int × Int × Int × Int
def dCells (d : Tm.Deal) : List Value := [.int .i64 d.1, .int .i64 d.2.1, .int .i64 d.2.2.1, .int .i64 d.2.2.2.1, .int .i64 d.2.2.2.2]
theorem dCells_len (d : Tm.Deal) : (dCells d).length = 5 := rfl
def Fit64 (x : Int) : Prop := -9223372036854775808 ≤ x ∧ x ≤ 9223372036854775807
def FitD (d : Tm.Deal) : Prop := Fit64 d.1 ∧ Fit64 d.2.1 ∧ Fit64 d.2.2.1 ∧ Fit64 d.2.2.2.1 ∧ Fit64 d.2.2.2.2
def DRow (w : World) (ao : Option Addr) (ds : List Tm.Deal) : Prop := (∀ d ∈ ds, FitD d) ∧ Sl dCells w ao ds
theorem DRow.bel {w w' : World} {ao : Option Addr} {ds : List Tm.Deal} (h : DRow w ao ds) (hb : Below w.heap.size w w') : DRow w' ao ds := ⟨h.1, h.2.below hb⟩
end Go.Proofs.YtmlbphmbffkdnaaGreat
namespace Go.Proofs.YtmlbphmbffkdnaaGreat
open Go.RowKit
set_option linter.unusedVariables false
set_option maxRecDepth 100000

/-- a head: size, log, own -/
abbrev Tm.Hed := Int × Int × Int
def wCells (d : Tm.Hed) : List Value := [.int .i64 d.1, .int .i64 d.2.1, .int .i64 d.2.2]
theorem wCells_len (d : Tm.Hed) : (wCells d).length = 3 := rfl
def FitW (d : Tm.Hed) : Prop := True
def WRow (w : World) (ao : Option Addr) (ds : List Tm.Hed) : Prop := (∀ d ∈ ds, FitW d) ∧ Sl wCells w ao ds
def WOwn (w : World) (base : Nat) (v : Value) (ds : List Tm.Hed) : Prop := (∀ d ∈ ds, FitW d) ∧ w.ownsRow base 24 3 v ds.length (ds.flatMap wCells)
theorem WOwn.row {w : World} {base : Nat} {v : Value} {ds : List Tm.Hed} (h : WOwn w base v ds) :
    ∃ ao cap, v = .slice ao ds.length cap ∧ ds.length ≤ cap ∧ WRow w ao ds ∧ (∀ a, ao = some a → base ≤ a.block ∧ a.block < w.heap.size) := by
  obtain ⟨ao, cap, h1, h2, h3, h4⟩ := owns_read wCells_len h.2
  exact ⟨ao, cap, h1, h2, ⟨h.1, h3⟩, h4⟩
theorem WOwn.bel {w w' : World} {base : Nat} {v : Value} {ds : List Tm.Hed} (h : WOwn w base v ds) (hb : Below w.heap.size w w') : WOwn w' base v ds := ⟨h.1, owns_below h.2 hb⟩
theorem WRow.bel {w w' : World} {ao : Option Addr} {ds : List Tm.Hed} (h : WRow w ao ds) (hb : Below w.heap.size w w') : WRow w' ao ds := ⟨h.1, h.2.below hb⟩
theorem WRow.any {w : World} {ao : Option Addr} {ds : List Tm.Hed} (h : Sl wCells w ao ds) : WRow w ao ds := ⟨fun _ _ => trivial, h⟩
theorem WOwn.rd {w : World} {base n cap : Nat} {ao : Option Addr} {xs : List Tm.Hed} (hn : xs.length = n) (h : WOwn w base (.slice ao n cap) xs) : WRow w ao xs := by
  obtain ⟨f, h2⟩ := h
  rw [hn] at h2
  exact ⟨f, owns_row wCells_len hn h2⟩
theorem WRow.kpt {w w' : World} {ao : Option Addr} {xs : List Tm.Hed} {row : Option Nat} (h : WRow w ao xs) (hg : w.grownBy w' row) (hne : ∀ a, ao = some a → some a.block ≠ row) : WRow w' ao xs := ⟨h.1, h.2.kept hg hne⟩
theorem WOwn.kpt {w w' : World} {base : Nat} {v : Value} {xs : List Tm.Hed} {row : Option Nat} (h : WOwn w base v xs) (hg : w.grownBy w' row) (hne : ∀ b, v.ownBlock = some b → some b ≠ row) : WOwn w' base v xs := ⟨h.1, ownsK h.2 hg hne⟩
end Go.Proofs.YtmlbphmbffkdnaaGreat
namespace Go.Proofs.YtmlbphmbffkdnaaGreat
open Go.RowKit
set_option linter.unusedVariables false
set_option maxRecDepth 100000

/-- a gate as a value: its head, and where the tickets lie -/
abbrev gatV (s l o : Int) (v : Value) : Value := .agg #[.int .i64 s, .int .i64 l, .int .i64 o, v]
def GTold (w : World) (s l o : Int) (zs : List Int) (e : Ending) (w' : World) : Prop := ∃ v, e = .returned (gatV s l o v) ∧ Own w' w.heap.size v zs ∧ Below w.heap.size w w'
theorem load_gat {W : World} {g : Nat} {a b c : Int} {v : Value} (h : Box W g [.int .i64 a, .int .i64 b, .int .i64 c, v]) : (Go.loadVar 27 ⟨g, 0, none⟩).run Tryz.prog W = .ok (gatV a b c v) W := by
  have c0 := h.cell 0 rfl
  have c1 := h.cell 1 rfl
  have c2 := h.cell 2 rfl
  have c3 := h.cell 3 rfl
  simp [go_sem, c0, c1, c2, c3]
theorem own_none (w : World) (base : Nat) (hb : base ≤ w.heap.size) : Own w base (.slice none 0 0) [] := ⟨fun z hz => by simp at hz, owns_nil w base 1 3 hb⟩
theorem Own.any {w : World} {base : Nat} {v : Value} {zs : List Int} (h : Own w base v zs) : ∃ ao cap, v = .slice ao zs.length cap ∧ zs.length ≤ cap ∧ (ao = none → cap = 0) ∧ Row w ao zs ∧ ∀ a, ao = some a → base ≤ a.block ∧ a.block < w.heap.size := by
  obtain ⟨ao, cap, rfl, h1, h2, h3⟩ := h.row
  exact ⟨ao, cap, rfl, h1, fun e => by subst e; exact own_cap0 h, h2, h3⟩
/-- tickets, each one, each behind the one ahead -/
def gatFrom (l : Int) : List Int → Bool
  | [] => true
  | t :: r => decide (0 ≤ t ∧ t ≤ 7) && (decide (l < t) && gatFrom t r)
def gatOk (s l o : Int) (zs : List Int) : Bool := hedOk s l o && gatFrom (-1) zs
theorem gat_bad {l t : Int} {r : List Int} (h : decide (0 ≤ t ∧ t ≤ 7) = false) : gatFrom l (t :: r) = false := by unfold gatFrom; rw [h]; rfl
theorem gat_low {l t : Int} {r : List Int} (h : t ≤ l) : gatFrom l (t :: r) = false := by unfold gatFrom; rw [decide_eq_false (show ¬ l < t by omega)]; cases decide (0 ≤ t ∧ t ≤ 7) <;> rfl
theorem gat_on {l t : Int} {r : List Int} (h : decide (0 ≤ t ∧ t ≤ 7) = true) (h2 : ¬ t ≤ l) : gatFrom l (t :: r) = gatFrom t r := by rw [gatFrom, h, decide_eq_true (show l < t by omega)]; rfl
theorem gat_len : ∀ (zs : List Int) (l : Int), gatFrom l zs = true → l ≤ 7 → l + (zs.length : Int) ≤ 7 := by
  intro zs
  induction zs with
  | nil => intro l _ h; simpa using h
  | cons t r ih =>
    intro l h hl
    unfold gatFrom at h
    simp only [Bool.and_eq_true, decide_eq_true_eq] at h
    have := ih t h.2.2 h.1.2
    simp only [List.length_cons]
    omega
theorem gat_long {zs : List Int} (h : (8 : Int) < (zs.length : Int)) : gatFrom (-1) zs = false := by
  rcases e : gatFrom (-1) zs with _ | _
  · rfl
  · have := gat_len zs _ e (by omega); omega
theorem i_at {zs : List Int} {k : Nat} (h : k < zs.length) : ∃ x, zs[k]? = some x := ⟨zs[k], List.getElem?_eq_getElem h⟩
theorem i_drop {hs : List Int} {k : Nat} {x : Int} (h : hs[k]? = some x) : hs.drop k = x :: hs.drop (k + 1) := by
  obtain ⟨hl, rfl⟩ := List.getElem?_eq_some_iff.1 h
  rw [List.drop_eq_getElem_cons hl]
/-- where a number of a list lies -/
theorem Row.get {w : World} {ao : Option Addr} {zs : List Int} (h : Row w ao zs) {k : Nat} {x : Int} (hx : zs[k]? = some x) : ∃ b off, ao = some ⟨b, off, none⟩ ∧ w.cell? ⟨b, off + k, none⟩ = some (.int .i64 x) ∧ -9223372036854775808 ≤ x ∧ x ≤ 9223372036854775807 := by
  obtain ⟨hl, e⟩ := List.getElem?_eq_some_iff.1 hx
  obtain ⟨b, off, rfl, hc⟩ := h.2 (by intro e2; subst e2; simp at hl)
  refine ⟨b, off, rfl, ?_, h.1 x (List.mem_of_getElem? hx)⟩
  have h2 := hc k hl
  rw [show zs.getD k 0 = x by rw [List.getD_eq_getElem?_getD, hx]; rfl] at h2
  exact h2

end Go.Proofs.YtmlbphmbffkdnaaGreat
namespace Go.Proofs.YtmlbphmbffkdnaaGreat
open Go.RowKit
set_option linter.unusedVariables false
set_option maxRecDepth 100000

set_option maxHeartbeats 4000000 in
theorem c70 (w : World) : Calls Tryz.prog 70 #[] w (GTold w (hS []) (hL []) (hO []) []) := by
  have HB := hide (Below.refl w.heap.size w)
  replace HB := hide (below_al (o := .cells #[.int .i64 0, .int .i64 0, .int .i64 0, .slice none 0 0] 27) (unhide HB))
  have HZ := hide (box_new w [.int .i64 0, .int .i64 0, .int .i64 0, .slice none 0 0] 27 (by simp [Value.oneCell']))
  (try simp only [World.size_alloc] at HZ)
  replace HB := hide (below_al (o := .cells #[] 80) (unhide HB))
  replace HZ := hide ((unhide HZ).bel (below_a (.cells #[] 80)))
  generalize hs : hS [] = s at *
  generalize hl : hL [] = l at *
  generalize ho : hO [] = o at *
  generalize hf : foldIs [] = f at *
  have HS := hide hs
  have HL := hide hl
  have HO := hide ho
  have HF := hide hf
  clear hs hl ho hf
  have z0 := (unhide HZ).cell 0 rfl
  have z0f := (unhide HZ).frozen 0 rfl
  have z1 := (unhide HZ).cell 1 rfl
  have z1f := (unhide HZ).frozen 1 rfl
  have z2 := (unhide HZ).cell 2 rfl
  have z2f := (unhide HZ).frozen 2 rfl
  have z3 := (unhide HZ).cell 3 rfl
  have z3f := (unhide HZ).frozen 3 rfl
  go_enter Tryz.func70, Tryz.ntmps70
  go_wp2_with fail
  refine (c16 [] _ 0 0 _ rfl (Nat.le_refl _) (by omega) ⟨fun e he => (by cases he), fun h => absurd rfl h⟩).mono ?_
  rintro e w1 ⟨rfl, hb⟩
  rw [unhide HS, unhide HL, unhide HO, unhide HF]
  (try clear z0 z0f z1 z1f z2 z2f z3 z3f)
  replace HB := hide (below_tr (unhide HB) hb)
  replace HZ := hide ((unhide HZ).bel hb)
  clear hb
  have z0 := (unhide HZ).cell 0 rfl
  have z0f := (unhide HZ).frozen 0 rfl
  have z1 := (unhide HZ).cell 1 rfl
  have z1f := (unhide HZ).frozen 1 rfl
  have z2 := (unhide HZ).cell 2 rfl
  have z2f := (unhide HZ).frozen 2 rfl
  have z3 := (unhide HZ).cell 3 rfl
  have z3f := (unhide HZ).frozen 3 rfl
  (try clear z0 z0f z1 z1f z2 z2f z3 z3f)
  replace HB := hide (below_al (o := .cells #[.int .i64 s, .int .i64 l, .int .i64 o] 24) (unhide HB))
  replace HZ := hide ((unhide HZ).bel (below_a (.cells #[.int .i64 s, .int .i64 l, .int .i64 o] 24)))
  have HX := hide (box_new w1 [.int .i64 s, .int .i64 l, .int .i64 o] 24 (by simp [Value.oneCell']))
  have z0 := (unhide HZ).cell 0 rfl
  have z0f := (unhide HZ).frozen 0 rfl
  have z1 := (unhide HZ).cell 1 rfl
  have z1f := (unhide HZ).frozen 1 rfl
  have z2 := (unhide HZ).cell 2 rfl
  have z2f := (unhide HZ).frozen 2 rfl
  have z3 := (unhide HZ).cell 3 rfl
  have z3f := (unhide HZ).frozen 3 rfl
  have x0 := (unhide HX).cell 0 rfl
  have x1 := (unhide HX).cell 1 rfl
  have x2 := (unhide HX).cell 2 rfl
  go_wp2_with fail
  (try clear z0 z0f z1 z1f z2 z2f z3 z3f x0 x1 x2)
  clear HX
  (try clear z0 z0f z1 z1f z2 z2f z3 z3f)
  replace HZ := hide (box_put (unhide HZ) 0 (.int .i64 s) (by simp))
  replace HB := hide (below_sc (p := ⟨w.heap.size, 0, none⟩) (v := .int .i64 s) (unhide HB) (by dsimp only; omega))
  replace HZ := hide (box_put (unhide HZ) 1 (.int .i64 l) (by simp))
  replace HB := hide (below_sc (p := ⟨w.heap.size, 1, none⟩) (v := .int .i64 l) (unhide HB) (by dsimp only; omega))
  replace HZ := hide (box_put (unhide HZ) 2 (.int .i64 o) (by simp))
  replace HB := hide (below_sc (p := ⟨w.heap.size, 2, none⟩) (v := .int .i64 o) (unhide HB) (by dsimp only; omega))
  replace HZ := hide (box_put (unhide HZ) 3 (.slice none 0 0) (by simp))
  replace HB := hide (below_sc (p := ⟨w.heap.size, 3, none⟩) (v := .slice none 0 0) (unhide HB) (by dsimp only; omega))
  replace HZ := hide (show Box _ (w.heap.size) [.int .i64 s, .int .i64 l, .int .i64 o, .slice none 0 0] from unhide HZ)
  have z0 := (unhide HZ).cell 0 rfl
  have z0f := (unhide HZ).frozen 0 rfl
  have z1 := (unhide HZ).cell 1 rfl
  have z1f := (unhide HZ).frozen 1 rfl
  have z2 := (unhide HZ).cell 2 rfl
  have z2f := (unhide HZ).frozen 2 rfl
  have z3 := (unhide HZ).cell 3 rfl
  have z3f := (unhide HZ).frozen 3 rfl
  exact bodyPost_ret (v := gatV s l o (.slice none 0 0)) (results_c Tryz.results70 rfl (load_gat (unhide HZ))) rfl ⟨_, rfl, own_none _ _ (unhide HB).size, unhide HB⟩

theorem Own.any0 {w : World} {base : Nat} {v : Value} (h : Own w base v []) : ∃ ao cap, v = .slice ao 0 cap ∧ 0 ≤ cap ∧ (ao = none → cap = 0) ∧ Row w ao [] ∧ ∀ a, ao = some a → base ≤ a.block ∧ a.block < w.heap.size := h.any
end Go.Proofs.YtmlbphmbffkdnaaGreat
