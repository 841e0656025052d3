/-
  Texts of the proof, what it needs of them: Loga.
-/
import Derived.Test.YtmlbphmbffkdnaaGreatGh14
import Derived.Test.YtmlbphmbffkdnaaGreatGh16
namespace Go.Proofs.YtmlbphmbffkdnaaGreat
open Go.RowKit
set_option linter.unusedVariables false
set_option maxRecDepth 100000

theorem bel_grown {W W' : World} (hb : Below W.heap.size W W') (row : Option Nat) : W.grownBy W' row := ⟨hb.os, hb.tape, hb.output, hb.size, fun k hk _ => hb.block k hk⟩
/-- two lists that do not lie in one block -/
def Dis (v rv : Value) : Prop := ∀ b, v.ownBlock = some b → rv.ownBlock ≠ some b
theorem EOwn.kptG {w w' : World} {base : Nat} {v : Value} {es : List Tm.Ent} {row : Option Nat} (h : EOwn w base v es) (hg : w.grownBy w' row) (hne : ∀ b, v.ownBlock = some b → some b ≠ row) : EOwn w' base v es := ⟨h.1, ownsK h.2 hg hne⟩
theorem ROwn.kptG {w w' : World} {base : Nat} {v : Value} {rs : List Tm.Rw} {row : Option Nat} (h : ROwn w base v rs) (hg : w.grownBy w' row) (hne : ∀ b, v.ownBlock = some b → some b ≠ row) : ROwn w' base v rs := by
  obtain ⟨f, t, h0⟩ := h
  exact ⟨f, t, ownsK h0 hg hne⟩
theorem EOwn.blk {w : World} {base : Nat} {v : Value} {es : List Tm.Ent} (h : EOwn w base v es) : ∀ b, v.ownBlock = some b → base ≤ b ∧ b < w.heap.size := fun b hb => h.2.lt b hb
theorem ROwn.blk {w : World} {base : Nat} {v : Value} {rs : List Tm.Rw} (h : ROwn w base v rs) : ∀ b, v.ownBlock = some b → base ≤ b ∧ b < w.heap.size := by
  obtain ⟨f, t, h0⟩ := h
  exact fun b hb => h0.lt b hb
/-- while entries are drawn: the reader, the entries so far, how the tickets stand behind them -/
def LogS (w W : World) (r k : Nat) (v rv : Value) (es : List Tm.Ent) (rs : List Tm.Rw) : Prop :=
  Rd W r k ∧ w.grownBy W (some r) ∧ EOwn W w.heap.size v es ∧ ROwn W w.heap.size rv rs ∧ rs.length = 8 ∧ Dis v rv
theorem LogS.grow {w W W' : World} {r k k' : Nat} {v rv : Value} {es : List Tm.Ent} {rs : List Tm.Rw} {row : Option Nat} (h : LogS w W r k v rv es rs) (hg : W.grownBy W' row) (hr : Rd W' r k') (hgw : w.grownBy W' (some r))
    (h1 : ∀ b, v.ownBlock = some b → some b ≠ row) (h2 : ∀ b, rv.ownBlock = some b → some b ≠ row) : LogS w W' r k' v rv es rs :=
  ⟨hr, hgw, h.2.2.1.kptG hg h1, h.2.2.2.1.kptG hg h2, h.2.2.2.2.1, h.2.2.2.2.2⟩
theorem LogS.step {w W W' : World} {r k k' : Nat} {v rv : Value} {es : List Tm.Ent} {rs : List Tm.Rw} (h : LogS w W r k v rv es rs) (hr : Rd W' r k') (hg : W.grownBy W' (some r)) (hrl : r < w.heap.size) : LogS w W' r k' v rv es rs :=
  h.grow hg hr (grown_trans h.2.1 hg) (fun b hb e => by have := (h.2.2.1.blk b hb).1; cases e; omega) (fun b hb e => by have := (h.2.2.2.1.blk b hb).1; cases e; omega)
theorem LogS.below {w W W' : World} {r k : Nat} {v rv : Value} {es : List Tm.Ent} {rs : List Tm.Rw} (h : LogS w W r k v rv es rs) (hb : Below W.heap.size W W') : LogS w W' r k v rv es rs :=
  h.grow (bel_grown hb none) (h.1.kept (bel_grown hb none) (fun b hb => by cases hb)) (grown_trans h.2.1 (bel_grown hb _)) (fun b hb e => by cases e) (fun b hb e => by cases e)
theorem LogS.alloc {w W : World} {r k : Nat} {v rv : Value} {es : List Tm.Ent} {rs : List Tm.Rw} (h : LogS w W r k v rv es rs) (o : Obj) : LogS w (W.alloc o) r k v rv es rs := h.below ((Below.refl _ _).alloc (Nat.le_refl _) o)
theorem LogS.mono {w W : World} {r k k' : Nat} {v rv : Value} {es : List Tm.Ent} {rs : List Tm.Rw} (h : LogS w W r k v rv es rs) (hk : k ≤ k') : LogS w W r k' v rv es rs := ⟨h.1.mono hk, h.2⟩
theorem LogS.put {w W W' : World} {r k g : Nat} {v rv : Value} {es : List Tm.Ent} {rs : List Tm.Rw} (h : LogS w W r k v rv es rs) (hg : W.grownBy W' (some g)) (hrl : r < w.heap.size) (h0 : w.heap.size ≤ g) (h1 : v.ownBlock ≠ some g) (h2 : rv.ownBlock ≠ some g) : LogS w W' r k v rv es rs :=
  h.grow hg (h.1.kept hg (fun b hb => by cases hb; omega)) (grown_new h.2.1 hg h0) (fun b hb e => h1 (by rw [hb, e])) (fun b hb e => h2 (by rw [hb, e]))
theorem LogS.rows {w W : World} {r k : Nat} {v rv : Value} {es : List Tm.Ent} {rs : List Tm.Rw} (h : LogS w W r k v rv es rs) :
    ∃ b off cap, rv = .slice (some ⟨b, off, none⟩) 8 cap ∧ 8 ≤ cap ∧ RRow W (some ⟨b, off, none⟩) rs := by
  obtain ⟨-, -, -, hR, h8, -⟩ := h
  obtain ⟨ao, cap, rfl, hc, hr, -⟩ := hR.row
  obtain ⟨b, off, rfl, -⟩ := hr.2 (by intro e; subst e; simp at h8)
  rw [h8] at hc ⊢
  exact ⟨b, off, cap, rfl, hc, hr⟩
theorem LogS.out {w W : World} {r k : Nat} {v rv : Value} {es : List Tm.Ent} {rs : List Tm.Rw} (h : LogS w W r k v rv es rs) : ∃ ao cap, v = .slice ao es.length cap ∧ es.length ≤ cap := by
  obtain ⟨ao, cap, h1, h2, -, -⟩ := h.2.2.1.row
  exact ⟨ao, cap, h1, h2⟩
theorem LogS.rput {w W W' : World} {r k : Nat} {v rv rv' : Value} {es : List Tm.Ent} {rs rs' : List Tm.Rw} (h : LogS w W r k v rv es rs) (hb : Below W.heap.size W W') (ho : ROwn W' W.heap.size rv' rs') (h8 : rs'.length = 8) : LogS w W' r k v rv' es rs' := by
  have h2 := h.below hb
  exact ⟨h2.1, h2.2.1, h2.2.2.1, ho.mono h.2.1.size, h8, fun b hb1 hb2 => by have := (h.2.2.1.blk b hb1).2; have := (ho.blk b hb2).1; omega⟩
/-- the entry that is drawn, in its block -/
def EntB (w W : World) (v rv : Value) (g : Nat) (a t u p : Int) : Prop :=
  Box W g [.int .i64 a, .int .i64 t, .int .i64 u, .int .i64 p] ∧ w.heap.size ≤ g ∧ v.ownBlock ≠ some g ∧ rv.ownBlock ≠ some g ∧ FitsE a t u p
theorem entb_new {w W : World} {r k : Nat} {v rv : Value} {es : List Tm.Ent} {rs : List Tm.Rw} (h : LogS w W r k v rv es rs) {a t u p : Int} (hf : FitsE a t u p) (ty : TypeId) : EntB w (W.alloc (.cells #[.int .i64 a, .int .i64 t, .int .i64 u, .int .i64 p] ty)) v rv W.heap.size a t u p :=
  ⟨box_new W [.int .i64 a, .int .i64 t, .int .i64 u, .int .i64 p] ty (by simp [Value.oneCell']), h.2.1.size, fun e => by have := (h.2.2.1.blk _ e).2; omega, fun e => by have := (h.2.2.2.1.blk _ e).2; omega, hf⟩
theorem EntB.step {w W W' : World} {v rv : Value} {g : Nat} {a t u p : Int} {r : Nat} (h : EntB w W v rv g a t u p) (hg : W.grownBy W' (some r)) (hrl : r < w.heap.size) : EntB w W' v rv g a t u p :=
  ⟨h.1.kpt hg (fun e => by have := h.2.1; cases e; omega), h.2⟩
theorem EntB.below {w W W' : World} {v rv : Value} {g : Nat} {a t u p : Int} (h : EntB w W v rv g a t u p) (hb : Below W.heap.size W W') : EntB w W' v rv g a t u p := ⟨h.1.below hb, h.2⟩
abbrev four (W : World) (g : Nat) (a t u p : Int) : World := (((W.setCell ⟨g, 0, none⟩ (.int .i64 a)).setCell ⟨g, 1, none⟩ (.int .i64 t)).setCell ⟨g, 2, none⟩ (.int .i64 u)).setCell ⟨g, 3, none⟩ (.int .i64 p)
theorem EntB.four {w W : World} {v rv : Value} {g : Nat} {a t u p a' t' u' p' : Int} (h : EntB w W v rv g a t u p) (hf : FitsE a' t' u' p') : EntB w (four W g a' t' u' p') v rv g a' t' u' p' :=
  ⟨box_put (box_put (box_put (box_put h.1 0 (.int .i64 a') (by simp)) 1 (.int .i64 t') (by simp)) 2 (.int .i64 u') (by simp)) 3 (.int .i64 p') (by simp), h.2.1, h.2.2.1, h.2.2.2.1, hf⟩
theorem LogS.four {w W : World} {r k : Nat} {v rv : Value} {es : List Tm.Ent} {rs : List Tm.Rw} {g : Nat} {a t u p : Int} (h : LogS w W r k v rv es rs) (hb : EntB w W v rv g a t u p) (hrl : r < w.heap.size) (a' t' u' p' : Int) : LogS w (four W g a' t' u' p') r k v rv es rs :=
  h.put (grown_four W g _ _ _ _) hrl hb.2.1 hb.2.2.1 hb.2.2.2.1
section
variable {P : Program} (w : World)
/-- something appended that lies where it lay, or anew -/
theorem wpList_append_lies {ops : Array Oper} {rest : List Oper} {o : Oper} {a : Act} {Q : Exit → Act → World → Prop} (hgd : o.guard = none) (s x : Operand) (t : TypeId)
    (ho : o.op = .call { callee := .builtin .append, args := #[s, x], argTypes := #[t, t] })
    (base : Nat) (e : TypeId) (i : TypeInfo) (z : Value) (size bytes : Nat) (ht : P.underlying t = some (.slice e)) (hi : P.info? e = some i) (hz : i.zero = some z)
    (hsize : i.size = size) (hby : i.bytes = bytes) (hzs : z.cells.size = size) (hsz : 0 < size)
    (v : Value) (n : Nat) (xs : List Value) (hs : a.eval s = v) (hown : w.ownsRow base e size v n xs)
    (ad : Addr) (m c : Nat) (news : List Value) (hx : a.eval x = .slice (some ad) m c) (hl : news.length = m * size) (hnews : ∀ j u, news[j]? = some u → w.cell? (ad.add j) = some u) (h1 : ∀ u ∈ news, u.oneCell' = true)
    (hm : 0 < m) (h63 : n + m ≤ maxLen) (hbytes : (n + m) * bytes ≤ 140737488355328) (hbase : base ≤ w.heap.size) (H : Nat) (hH : w.heap.size = H)
    (h : ∀ g cap w', w'.ownsRow base e size (.slice (some ⟨g, 0, none⟩) (n + m) cap) (n + m) (xs ++ news) → w.grownBy w' v.ownBlock → (v.ownBlock = some g ∨ g = H) → g < w'.heap.size → wpList P ops Q rest (a.put o.dst (.slice (some ⟨g, 0, none⟩) (n + m) cap)) w') : wpList P ops Q (o :: rest) a w :=
  wpList_plain hgd fun _ hK => wp_append_lies w s x t ho base e i z size bytes ht hi hz hsize hby hzs hsz v n xs hs hown ad m c news hx hl hnews h1 hm h63 hbytes hbase H hH fun g cap w' h2 h3 h4 h5 => hK _ _ (h g cap w' h2 h3 h4 h5)
end
/-- an entry more -/
theorem LogS.more {w W W' : World} {o : Obj} {r k g cap : Nat} {v rv : Value} {es : List Tm.Ent} {rs : List Tm.Rw} {x : Tm.Ent} (h : LogS w W r k v rv es rs) (hrl : r < w.heap.size) (hx : FitE x)
    (hown : W'.ownsRow w.heap.size 80 4 (.slice (some ⟨g, 0, none⟩) (es.length + 1) cap) (es.length + 1) (es.flatMap eCells ++ eCells x)) (hg : (W.alloc o).grownBy W' v.ownBlock) (hl : v.ownBlock = some g ∨ g = W.heap.size + 1) :
    LogS w W' r k (.slice (some ⟨g, 0, none⟩) (es.length + 1) cap) rv (es ++ [x]) rs := by
  have h2 := h.alloc o
  have hb : ∀ b, v.ownBlock = some b → w.heap.size ≤ b := fun b hb => (h.2.2.1.blk b hb).1
  refine ⟨h2.1.kept hg (fun b e => by have := hb b e; omega), ?_, ⟨?_, ?_⟩, h2.2.2.2.1.kptG hg (fun b e1 e2 => h.2.2.2.2.2 b e2.symm e1), h.2.2.2.2.1, ?_⟩
  · exact ⟨hg.os.trans h2.2.1.os, hg.tape.trans h2.2.1.tape, hg.output.trans h2.2.1.output, Nat.le_trans h2.2.1.size hg.size, fun i hi hr => (hg.block i (Nat.lt_of_lt_of_le hi h2.2.1.size) (fun e => by have := hb i e.symm; omega)).trans (h2.2.1.block i hi hr)⟩
  · intro e he
    rcases List.mem_append.1 he with h3 | h3
    · exact h.2.2.1.1 e h3
    · rw [List.mem_singleton.1 h3]; exact hx
  · rw [List.length_append, List.flatMap_append, List.flatMap_singleton]; exact hown
  · intro b e1 e2
    have e1' : g = b := by simpa [Value.ownBlock] using e1
    subst e1'
    rcases hl with h3 | h3
    · exact h.2.2.2.2.2 g h3 e2
    · have := (h.2.2.2.1.blk g e2).2; omega
/-- what a draw of entries leaves -/
def LogD (w : World) (r k : Nat) (e : Ending) (w' : World) : Prop :=
  ∃ (v : Value) (es : List Tm.Ent), e = .returned v ∧ es.length ≤ 41 ∧ EOwn w' w.heap.size v es ∧ Rd w' r k ∧ w.grownBy w' (some r)
theorem LogS.fin {w W : World} {r k k' : Nat} {v rv : Value} {es : List Tm.Ent} {rs : List Tm.Rw} (h : LogS w W r k v rv es rs) (hk : k ≤ k') (hl : es.length ≤ 41) : LogD w r k' (.returned v) W :=
  ⟨v, es, rfl, hl, h.2.2.1, h.1.mono hk, h.2.1⟩
theorem e_fit1 : FitE (1, 1, 1, 1) := by unfold FitE FitsE; simp
/-- the cells of rows that lie at a known place -/
theorem ROwn.rows2 {w : World} {base b off n cap : Nat} {rs : List Tm.Rw} (h : ROwn w base (.slice (some ⟨b, off, none⟩) n cap) rs) (h8 : rs.length = 8) : ∀ j v, (rs.flatMap rCells)[j]? = some v → w.cell? ⟨b, off + j, none⟩ = some v := by
  obtain ⟨ao, cap', he, -, hr, -⟩ := h.row
  cases he
  obtain ⟨b', off', he, hc⟩ := hr.2 (by intro e; subst e; simp at h8)
  cases he
  exact hc
/-- nothing drawn yet -/
theorem logs_new {w W' : World} {r k : Nat} {rv : Value} (h : Rd w r k) (hb : Below (w.alloc (.cells #[] 80)).heap.size (w.alloc (.cells #[] 80)) W') (ho : ROwn W' (w.alloc (.cells #[] 80)).heap.size rv Tm.none8) :
    LogS w W' r k (.slice (some ⟨w.heap.size, 0, none⟩) 0 0) rv [] Tm.none8 := by
  have hE : EOwn (w.alloc (.cells #[] 80)) w.heap.size (.slice (some ⟨w.heap.size, 0, none⟩) 0 0) [] := ⟨fun e he => by simp at he, owns_empty w w.heap.size 4 80 (Nat.le_refl _)⟩
  refine ⟨(h.alloc _).kept (bel_grown hb none) (fun b hb => by cases hb), grown_trans (World.grownBy_alloc w _ (some r)) (bel_grown hb _), hE.kptG (bel_grown hb none) (fun b hb e => by cases e), ho.mono (by simp), rfl, fun b e1 e2 => ?_⟩
  have h1 := (hE.blk b e1).2
  have h2 := (ho.blk b e2).1
  omega
theorem ROwn.rrow2 {w : World} {base n cap : Nat} {ao : Option Addr} {rs : List Tm.Rw} (h : ROwn w base (.slice ao n cap) rs) : RRow w ao rs := by
  obtain ⟨ao', cap', he, -, hr, -⟩ := h.row
  cases he
  exact hr
theorem ownOk_face {rs : List Tm.Rw} {t : Nat} {a c : Int} {d : Bool} (h : Tm.ownOk rs = true) (ht : rs[t]? = some (a, c, d)) (ha : 0 < a) : 1 ≤ c ∧ c ≤ 50 := by
  have h1 : Tm.rowOk (a, c, d) = true := (Tm.ownOk_iff.1 h).2 _ (mem_at ht)
  rw [rowOk_n (by omega)] at h1
  simp at h1
  omega
theorem LogS.outAt {w W : World} {r k cap : Nat} {ao : Option Addr} {rv : Value} {es : List Tm.Ent} {rs : List Tm.Rw} (h : LogS w W r k (.slice ao es.length cap) rv es rs) (hp : 0 < es.length) : ∃ g, ao = some ⟨g, 0, none⟩ := by
  rcases h.2.2.1.2.2 with ⟨hv, hz⟩ | ⟨g, cap', cur, hv, -⟩
  · omega
  · cases hv; exact ⟨g, rfl⟩
theorem LogS.ne1 {w W : World} {r k : Nat} {v rv : Value} {es : List Tm.Ent} {rs : List Tm.Rw} (h : LogS w W r k v rv es rs) : v.ownBlock ≠ some W.heap.size := fun e => by have := (h.2.2.1.blk _ e).2; omega
theorem LogS.ne2 {w W : World} {r k : Nat} {v rv : Value} {es : List Tm.Ent} {rs : List Tm.Rw} (h : LogS w W r k v rv es rs) : rv.ownBlock ≠ some W.heap.size := fun e => by have := (h.2.2.2.1.blk _ e).2; omega
theorem flat_part (es ys : List Tm.Ent) (i m : Nat) (hy : (es.drop i).take m = ys) : ∀ j u, (ys.flatMap eCells)[j]? = some u → (es.flatMap eCells)[i * 4 + j]? = some u := by
  intro j u hu
  have hlen : j < (ys.flatMap eCells).length := lt_of_get hu
  have hi : i ≤ es.length := by
    rcases Nat.lt_or_ge es.length i with h | h
    · rw [List.drop_eq_nil_of_le (by omega)] at hy; simp at hy; subst hy; simp at hlen
    · exact h
  have e : es = es.take i ++ (ys ++ (es.drop i).drop m) := by rw [← hy, List.take_append_drop, List.take_append_drop]
  have hl : ((es.take i).flatMap eCells).length = i * 4 := by rw [flat_len eCells 4 eCells_len, List.length_take, Nat.min_eq_left hi]
  have key : ∀ zs, zs = es.take i ++ (ys ++ (es.drop i).drop m) → (zs.flatMap eCells)[i * 4 + j]? = some u := by
    intro zs hz
    rw [hz, List.flatMap_append, List.flatMap_append, List.getElem?_append_right (by rw [hl]; omega), hl, show i * 4 + j - i * 4 = j by omega, List.getElem?_append_left hlen]
    exact hu
  exact key es e
theorem LogS.news {w W : World} {r k g n cap : Nat} {rv : Value} {es : List Tm.Ent} {rs : List Tm.Rw} (h : LogS w W r k (.slice (some ⟨g, 0, none⟩) n cap) rv es rs) (i m : Nat) (ys : List Tm.Ent) (hy : (es.drop i).take m = ys) :
    ∀ j u, (ys.flatMap eCells)[j]? = some u → W.cell? ((⟨g, i * 4, none⟩ : Addr).add j) = some u := by
  intro j u hu
  have h1 := flat_part es ys i m hy j u hu
  obtain ⟨ao, cap', he, -, hr, -⟩ := h.2.2.1.row
  cases he
  obtain ⟨b', off', he, hc⟩ := hr.2 (by intro e; subst e; simp at h1)
  cases he
  have hadd : (⟨g, i * 4, none⟩ : Addr).add j = ⟨g, 0 + (i * 4 + j), none⟩ := by unfold Addr.add; split <;> simp_all
  rw [hadd]
  exact hc _ _ h1
theorem e_oneCell (ys : List Tm.Ent) : ∀ u ∈ ys.flatMap eCells, u.oneCell' = true := by
  intro u hu
  obtain ⟨e, -, he⟩ := List.mem_flatMap.1 hu
  simp [eCells] at he
  rcases he with h | h | h | h <;> subst h <;> rfl
theorem own_after1 {W : World} {b m s : Nat} {t : TypeId} {v : Value} {xs : List Value} (h : W.ownsRow b t s v (0 + m) ([] ++ xs)) : W.ownsRow b t s v m xs := by simpa using h
theorem LogD.mono {w W : World} {r k k' : Nat} {e : Ending} (h : LogD w r k e W) (hk : k ≤ k') : LogD w r k' e W := by
  obtain ⟨v, es, h1, h2, h3, h4, h5⟩ := h
  exact ⟨v, es, h1, h2, h3, h4.mono hk, h5⟩
theorem LogS.after2 {w W W' : World} {r k j m1 : Nat} {v rv v1 v2 : Value} {es : List Tm.Ent} {rs : List Tm.Rw} {xs1 : List Value} (h : LogS w W r k v rv es rs) (ho : W.ownsRow w.heap.size 80 4 v1 m1 xs1) (hrl : r < w.heap.size) (hj : j < es.length) (hl : es.length ≤ 41)
    (hown : W'.ownsRow w.heap.size 80 4 v2 (j + (es.length - (j + 1))) ((es.take j).flatMap eCells ++ (es.drop (j + 1)).flatMap eCells)) (hg : W.grownBy W' v1.ownBlock) : LogD w r k (.returned v2) W' := by
  have hb : ∀ b, v1.ownBlock = some b → w.heap.size ≤ b := fun b hb => (ho.lt b hb).1
  have hlen : (es.take j ++ es.drop (j + 1)).length = j + (es.length - (j + 1)) := by simp; omega
  refine ⟨v2, es.take j ++ es.drop (j + 1), rfl, by omega, ⟨?_, ?_⟩, h.1.kept hg (fun b e => by have := hb b e; omega), ?_⟩
  · intro e he
    rcases List.mem_append.1 he with h3 | h3
    · exact h.2.2.1.1 e (List.mem_of_mem_take h3)
    · exact h.2.2.1.1 e (List.mem_of_mem_drop h3)
  · rw [hlen, List.flatMap_append]; exact hown
  · exact ⟨hg.os.trans h.2.1.os, hg.tape.trans h.2.1.tape, hg.output.trans h.2.1.output, Nat.le_trans h.2.1.size hg.size, fun i hi hr => (hg.block i (Nat.lt_of_lt_of_le hi h.2.1.size) (fun e => by have := hb i e.symm; omega)).trans (h.2.1.block i hi hr)⟩
section
variable {P : Program} (w : World)
theorem step_append_own {ops : Array Oper} {o : Oper} {a : Act} {K : Act → World → Prop} {Q : Exit → Act → World → Prop} {E : Prop} (hgd : o.guard = none) (s x : Operand) (t : TypeId)
    (ho : o.op = .call { callee := .builtin .append, args := #[s, x], argTypes := #[t, t] })
    (base : Nat) (e : TypeId) (i : TypeInfo) (z : Value) (size bytes : Nat) (ht : P.underlying t = some (.slice e)) (hi : P.info? e = some i) (hz : i.zero = some z)
    (hsize : i.size = size) (hby : i.bytes = bytes) (hzs : z.cells.size = size) (hsz : 0 < size)
    (v : Value) (n : Nat) (xs : List Value) (hs : a.eval s = v) (hown : w.ownsRow base e size v n xs)
    (ad : Addr) (m c : Nat) (news : List Value) (hx : a.eval x = .slice (some ad) m c) (hl : news.length = m * size) (hnews : ∀ j u, news[j]? = some u → w.cell? (ad.add j) = some u) (h1 : ∀ u ∈ news, u.oneCell' = true)
    (h63 : n + m ≤ maxLen) (hbytes : (n + m) * bytes ≤ 140737488355328) (hbase : base ≤ w.heap.size)
    (h : ∀ v' w', w'.ownsRow base e size v' (n + m) (xs ++ news) → w.grownBy w' v.ownBlock → (v' = .slice none 0 0 ↔ v = .slice none 0 0 ∧ m = 0) → K (a.put o.dst v') w') :
    if Region.wanted o (yielded ops a.tmps) = true then Oper.wp P o a w K Q else E := by
  have hw : Region.wanted o (yielded ops a.tmps) = true := by simp [Region.wanted, hgd]
  rw [if_pos hw]
  exact wp_append_own w s x t ho base e i z size bytes ht hi hz hsize hby hzs hsz v n xs hs hown ad m c news hx hl hnews h1 h63 hbytes hbase h
end
end Go.Proofs.YtmlbphmbffkdnaaGreat
