/-
  Texts of the proof, what it needs of them: Lstd, Lsth, Gato.
-/
import Derived.Test.YtmlbphmbffkdnaaGreatGz07
import Derived.Test.YtmlbphmbffkdnaaGreatGz08
import Derived.Test.YtmlbphmbffkdnaaGreatGz16
import Derived.Test.YtmlbphmbffkdnaaGreatGz19
namespace Go.Proofs.YtmlbphmbffkdnaaGreat
open Go.RowKit
set_option linter.unusedVariables false
set_option maxRecDepth 100000

/-- a ticket that is offered: ticket, seller, price, buyer, due -/
abbrev Tm.Deal := Int × Int × Int × Int × Int
def dCells (d : Tm.Deal) : List Value := [.int .i64 d.1, .int .i64 d.2.1, .int .i64 d.2.2.1, .int .i64 d.2.2.2.1, .int .i64 d.2.2.2.2]
theorem dCells_len (d : Tm.Deal) : (dCells d).length = 5 := rfl
def Fit64 (x : Int) : Prop := -9223372036854775808 ≤ x ∧ x ≤ 9223372036854775807
def FitD (d : Tm.Deal) : Prop := Fit64 d.1 ∧ Fit64 d.2.1 ∧ Fit64 d.2.2.1 ∧ Fit64 d.2.2.2.1 ∧ Fit64 d.2.2.2.2
def DRow (w : World) (ao : Option Addr) (ds : List Tm.Deal) : Prop := (∀ d ∈ ds, FitD d) ∧ Sl dCells w ao ds
theorem DRow.bel {w w' : World} {ao : Option Addr} {ds : List Tm.Deal} (h : DRow w ao ds) (hb : Below w.heap.size w w') : DRow w' ao ds := ⟨h.1, h.2.below hb⟩
end Go.Proofs.YtmlbphmbffkdnaaGreat
namespace Go.Proofs.YtmlbphmbffkdnaaGreat
open Go.RowKit
set_option linter.unusedVariables false
set_option maxRecDepth 100000

/-- a head: size, log, own -/
abbrev Tm.Hed := Int × Int × Int
def wCells (d : Tm.Hed) : List Value := [.int .i64 d.1, .int .i64 d.2.1, .int .i64 d.2.2]
theorem wCells_len (d : Tm.Hed) : (wCells d).length = 3 := rfl
def FitW (d : Tm.Hed) : Prop := True
def WRow (w : World) (ao : Option Addr) (ds : List Tm.Hed) : Prop := (∀ d ∈ ds, FitW d) ∧ Sl wCells w ao ds
def WOwn (w : World) (base : Nat) (v : Value) (ds : List Tm.Hed) : Prop := (∀ d ∈ ds, FitW d) ∧ w.ownsRow base 24 3 v ds.length (ds.flatMap wCells)
theorem WOwn.row {w : World} {base : Nat} {v : Value} {ds : List Tm.Hed} (h : WOwn w base v ds) :
    ∃ ao cap, v = .slice ao ds.length cap ∧ ds.length ≤ cap ∧ WRow w ao ds ∧ (∀ a, ao = some a → base ≤ a.block ∧ a.block < w.heap.size) := by
  obtain ⟨ao, cap, h1, h2, h3, h4⟩ := owns_read wCells_len h.2
  exact ⟨ao, cap, h1, h2, ⟨h.1, h3⟩, h4⟩
theorem WOwn.bel {w w' : World} {base : Nat} {v : Value} {ds : List Tm.Hed} (h : WOwn w base v ds) (hb : Below w.heap.size w w') : WOwn w' base v ds := ⟨h.1, owns_below h.2 hb⟩
theorem WRow.bel {w w' : World} {ao : Option Addr} {ds : List Tm.Hed} (h : WRow w ao ds) (hb : Below w.heap.size w w') : WRow w' ao ds := ⟨h.1, h.2.below hb⟩
theorem WRow.any {w : World} {ao : Option Addr} {ds : List Tm.Hed} (h : Sl wCells w ao ds) : WRow w ao ds := ⟨fun _ _ => trivial, h⟩
theorem WOwn.rd {w : World} {base n cap : Nat} {ao : Option Addr} {xs : List Tm.Hed} (hn : xs.length = n) (h : WOwn w base (.slice ao n cap) xs) : WRow w ao xs := by
  obtain ⟨f, h2⟩ := h
  rw [hn] at h2
  exact ⟨f, owns_row wCells_len hn h2⟩
theorem WRow.kpt {w w' : World} {ao : Option Addr} {xs : List Tm.Hed} {row : Option Nat} (h : WRow w ao xs) (hg : w.grownBy w' row) (hne : ∀ a, ao = some a → some a.block ≠ row) : WRow w' ao xs := ⟨h.1, h.2.kept hg hne⟩
theorem WOwn.kpt {w w' : World} {base : Nat} {v : Value} {xs : List Tm.Hed} {row : Option Nat} (h : WOwn w base v xs) (hg : w.grownBy w' row) (hne : ∀ b, v.ownBlock = some b → some b ≠ row) : WOwn w' base v xs := ⟨h.1, ownsK h.2 hg hne⟩
end Go.Proofs.YtmlbphmbffkdnaaGreat
namespace Go.Proofs.YtmlbphmbffkdnaaGreat
open Go.RowKit
set_option linter.unusedVariables false
set_option maxRecDepth 100000

/-- a gate as a value: its head, and where the tickets lie -/
abbrev gatV (s l o : Int) (v : Value) : Value := .agg #[.int .i64 s, .int .i64 l, .int .i64 o, v]
def GTold (w : World) (s l o : Int) (zs : List Int) (e : Ending) (w' : World) : Prop := ∃ v, e = .returned (gatV s l o v) ∧ Own w' w.heap.size v zs ∧ Below w.heap.size w w'
theorem load_gat {W : World} {g : Nat} {a b c : Int} {v : Value} (h : Box W g [.int .i64 a, .int .i64 b, .int .i64 c, v]) : (Go.loadVar 27 ⟨g, 0, none⟩).run Tryz.prog W = .ok (gatV a b c v) W := by
  have c0 := h.cell 0 rfl
  have c1 := h.cell 1 rfl
  have c2 := h.cell 2 rfl
  have c3 := h.cell 3 rfl
  simp [go_sem, c0, c1, c2, c3]
theorem own_none (w : World) (base : Nat) (hb : base ≤ w.heap.size) : Own w base (.slice none 0 0) [] := ⟨fun z hz => by simp at hz, owns_nil w base 1 3 hb⟩
theorem Own.any {w : World} {base : Nat} {v : Value} {zs : List Int} (h : Own w base v zs) : ∃ ao cap, v = .slice ao zs.length cap ∧ zs.length ≤ cap ∧ (ao = none → cap = 0) ∧ Row w ao zs ∧ ∀ a, ao = some a → base ≤ a.block ∧ a.block < w.heap.size := by
  obtain ⟨ao, cap, rfl, h1, h2, h3⟩ := h.row
  exact ⟨ao, cap, rfl, h1, fun e => by subst e; exact own_cap0 h, h2, h3⟩
/-- tickets, each one, each behind the one ahead -/
def gatFrom (l : Int) : List Int → Bool
  | [] => true
  | t :: r => decide (0 ≤ t ∧ t ≤ 7) && (decide (l < t) && gatFrom t r)
def gatOk (s l o : Int) (zs : List Int) : Bool := hedOk s l o && gatFrom (-1) zs
theorem gat_bad {l t : Int} {r : List Int} (h : decide (0 ≤ t ∧ t ≤ 7) = false) : gatFrom l (t :: r) = false := by unfold gatFrom; rw [h]; rfl
theorem gat_low {l t : Int} {r : List Int} (h : t ≤ l) : gatFrom l (t :: r) = false := by unfold gatFrom; rw [decide_eq_false (show ¬ l < t by omega)]; cases decide (0 ≤ t ∧ t ≤ 7) <;> rfl
theorem gat_on {l t : Int} {r : List Int} (h : decide (0 ≤ t ∧ t ≤ 7) = true) (h2 : ¬ t ≤ l) : gatFrom l (t :: r) = gatFrom t r := by rw [gatFrom, h, decide_eq_true (show l < t by omega)]; rfl
theorem gat_len : ∀ (zs : List Int) (l : Int), gatFrom l zs = true → l ≤ 7 → l + (zs.length : Int) ≤ 7 := by
  intro zs
  induction zs with
  | nil => intro l _ h; simpa using h
  | cons t r ih =>
    intro l h hl
    unfold gatFrom at h
    simp only [Bool.and_eq_true, decide_eq_true_eq] at h
    have := ih t h.2.2 h.1.2
    simp only [List.length_cons]
    omega
theorem gat_long {zs : List Int} (h : (8 : Int) < (zs.length : Int)) : gatFrom (-1) zs = false := by
  rcases e : gatFrom (-1) zs with _ | _
  · rfl
  · have := gat_len zs _ e (by omega); omega
theorem i_at {zs : List Int} {k : Nat} (h : k < zs.length) : ∃ x, zs[k]? = some x := ⟨zs[k], List.getElem?_eq_getElem h⟩
theorem i_drop {hs : List Int} {k : Nat} {x : Int} (h : hs[k]? = some x) : hs.drop k = x :: hs.drop (k + 1) := by
  obtain ⟨hl, rfl⟩ := List.getElem?_eq_some_iff.1 h
  rw [List.drop_eq_getElem_cons hl]
/-- where a number of a list lies -/
theorem Row.get {w : World} {ao : Option Addr} {zs : List Int} (h : Row w ao zs) {k : Nat} {x : Int} (hx : zs[k]? = some x) : ∃ b off, ao = some ⟨b, off, none⟩ ∧ w.cell? ⟨b, off + k, none⟩ = some (.int .i64 x) ∧ -9223372036854775808 ≤ x ∧ x ≤ 9223372036854775807 := by
  obtain ⟨hl, e⟩ := List.getElem?_eq_some_iff.1 hx
  obtain ⟨b, off, rfl, hc⟩ := h.2 (by intro e2; subst e2; simp at hl)
  refine ⟨b, off, rfl, ?_, h.1 x (List.mem_of_getElem? hx)⟩
  have h2 := hc k hl
  rw [show zs.getD k 0 = x by rw [List.getD_eq_getElem?_getD, hx]; rfl] at h2
  exact h2

end Go.Proofs.YtmlbphmbffkdnaaGreat
