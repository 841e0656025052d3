/-
  Texts of the proof, what it needs of them: Logc, Lawsho, Kept, L21g.
-/
import Derived.Test.YtmlbphmbffkdnaaGreatGh15
import Derived.Test.YtmlbphmbffkdnaaGreatGh18
import Derived.Test.YtmlbphmbffkdnaaGreatGh27
import Derived.Test.YtmlbphmbffkdnaaGreatGh28
import Derived.Test.YtmlbphmbffkdnaaGreatGh29
import Derived.Test.YtmlbphmbffkdnaaGreatGh33
import Derived.Test.YtmlbphmbffkdnaaGreatGh37
namespace Go.Proofs.YtmlbphmbffkdnaaGreat
open Go.RowKit
set_option linter.unusedVariables false
set_option maxRecDepth 100000

theorem EOwn.mono {w : World} {b b' : Nat} {v : Value} {es : List Tm.Ent} (h : EOwn w b' v es) (hb : b ≤ b') : EOwn w b v es := ⟨h.1, owns_mono h.2 hb⟩
/-- what a draw of entries leaves, of a code alone -/
def LogsD (w : World) (e : Ending) (w' : World) : Prop :=
  ∃ (v : Value) (es : List Tm.Ent), e = .returned v ∧ es.length ≤ 41 ∧ EOwn w' w.heap.size v es ∧ Below w.heap.size w w'
set_option maxHeartbeats 1000000 in
theorem c14 (bs : List Int) (ao : Option Addr) (n cap : Nat) (w : World) (hn : bs.length = n) (hc : n ≤ cap) (hm : cap ≤ maxLen) (hB : Bytes w ao bs) :
    Calls Tryz.prog 14 #[.slice ao n cap] w (LogsD w) := by
  have HB := hide hB
  clear hB
  go_enter Tryz.func14, Tryz.ntmps14
  go_wp2_with fail
  refine (c23 bs ao n cap _ hn hc hm (unhide HB)).mono ?_
  rintro e w1 ⟨rfl, hr1, hb1, hl1⟩
  clear HB hn hc hm
  go_wp2_with fail
  refine (c24 w.heap.size 0 5 _ (by omega) (by omega) hr1).mono ?_
  rintro e w2 ⟨v, es, rfl, hes, ho, hr, hg⟩
  have HB2 := hide (below_of_grown hb1 hg)
  have HO2 := hide (ho.mono hb1.size)
  clear ho hr hg hr1 hb1 hl1
  go_wp2_with fail
  go_ret
  exact ⟨v, es, rfl, hes, unhide HO2, unhide HB2⟩

end Go.Proofs.YtmlbphmbffkdnaaGreat
namespace Go.Proofs.YtmlbphmbffkdnaaGreat
open Go.RowKit
set_option linter.unusedVariables false
set_option maxRecDepth 100000

theorem okB_ml (zs : List Int) (h : Tm.treOk zs = true) : Tm.okB (Tm.treRoot zs) = true := by
  obtain ⟨h1, h2⟩ := treOk_len h
  rw [treRoot_of h1 h2]
  exact Tm.root_ok _ zs (Nat.le_refl _) h1 h2
theorem hedOk_of {es : List Tm.Ent} (h : foldIs es = true) : hedOk (hS es) (hL es) (hO es) = true := by
  obtain ⟨u0, u1, u2⟩ := hed_yes h
  have h40 := foldIs_len h
  have h3 : Tm.ownOk (foldRows es) = true := by
    unfold foldIs at h
    rw [Option.isSome_iff_exists] at h
    obtain ⟨r, hr⟩ := h
    rw [(fold_some hr).1]
    exact ownFold_ok hr
  rw [u0, u1, u2]
  unfold hedOk
  rw [okB_ml _ (entLeaves_treOk h40), ownRoot_of h3, okB_ml _ (leavesR_tre h3), decide_eq_true (show 0 ≤ (es.length : Int) ∧ (es.length : Int) ≤ 40 by omega)]
  rfl

end Go.Proofs.YtmlbphmbffkdnaaGreat
namespace Go.Proofs.YtmlbphmbffkdnaaGreat
open Go.RowKit
set_option linter.unusedVariables false
set_option maxRecDepth 100000

theorem WOwn.kg {W W' : World} {base r : Nat} {v : Value} {es : List Tm.Hed} (h : WOwn W base v es) (hg : W.grownBy W' (some r)) (hr : r < base) : WOwn W' base v es :=
  h.kpt hg (fun b hb e => by have := h.2.lt b hb; cases e; omega)
theorem WOwn.mono {w : World} {base base' : Nat} {v : Value} {zs : List Tm.Hed} (h : WOwn w base v zs) (hb : base' ≤ base) : WOwn w base' v zs := ⟨h.1, owns_mono h.2 hb⟩
end Go.Proofs.YtmlbphmbffkdnaaGreat
namespace Go.Proofs.YtmlbphmbffkdnaaGreat
open Go.RowKit
set_option linter.unusedVariables false
set_option maxRecDepth 100000

/-- what a draw of a gate leaves -/
def GatD (w : World) (r k : Nat) (e : Ending) (w' : World) : Prop :=
  ∃ (s l o : Int) (v : Value) (zs : List Int), e = .returned (gatV s l o v) ∧ zs.length ≤ 9 ∧ Own w' w.heap.size v zs ∧ Rd w' r k ∧ w.grownBy w' (some r)
theorem grown_lies {w W W' : World} {r : Nat} {u : Value} (h1 : w.grownBy W (some r)) (hu : ∀ b, u.ownBlock = some b → w.heap.size ≤ b) (hg : W.grownBy W' u.ownBlock) : w.grownBy W' (some r) := by
  rcases e : u.ownBlock with _ | b
  · rw [e] at hg; exact ⟨hg.os.trans h1.os, hg.tape.trans h1.tape, hg.output.trans h1.output, Nat.le_trans h1.size hg.size, fun i hi hr => (hg.block i (Nat.lt_of_lt_of_le hi h1.size) (by simp)).trans (h1.block i hi hr)⟩
  · rw [e] at hg; exact grown_new h1 hg (hu b e)
/-- one of two operations may come up first -/
theorem twoL {P : Program} {ops : Array Oper} {Q : Exit → Act → World → Prop} {md : Region.Mode} {S0 : World → Prop} {Ss : List Nat} (i j : Nat) {oi oj : Oper} {fuel : Nat} {listed : Array Bool} {a : Act} {w : World}
    (h1 : ∀ K' : Act → World → Prop, Shut (∀ a w, S0 w → (S0 w → wpAnyL P md ops Q S0 Ss fuel (listed.setIfInBounds i true) a w) → K' a w) → if Region.wanted oi (yielded ops a.tmps) = true then Oper.wp P oi a w K' Q else K' (a.put oi.dst undef) w)
    (h2 : ∀ K' : Act → World → Prop, Shut (∀ a w, S0 w → (S0 w → wpAnyL P md ops Q S0 Ss fuel (listed.setIfInBounds j true) a w) → K' a w) → if Region.wanted oj (yielded ops a.tmps) = true then Oper.wp P oj a w K' Q else K' (a.put oj.dst undef) w)
    (hr : Region.ready md ops listed = [i, j] := by kernel_rfl) (hi : ops[i]? = some oi := by rfl) (hj : ops[j]? = some oj := by rfl) : wpAnyL P md ops Q S0 Ss (fuel + 1) listed a w := by
  refine ⟨fun h0 => (by rw [h0] at hr; cases hr), fun m hm => ?_⟩
  rw [hr] at hm
  simp only [List.mem_cons, List.not_mem_nil, or_false] at hm
  rcases hm with rfl | rfl
  · exact wpOp_step hi (fun K' hK => h1 K' (fun a w hS hW => hK a w ⟨.inl hS, hW hS⟩))
  · exact wpOp_step hj (fun K' hK => h2 K' (fun a w hS hW => hK a w ⟨.inl hS, hW hS⟩))

/-- what holds while a gate is drawn: the entries, the answer's block, the gate's block and its list -/
def GSt (w W : World) (base : Nat) (vl : Value) (es : List Tm.Ent) (G : Nat) (s l o : Int) (u v : Value) (n : Nat) (zs : List Int) : Prop :=
  EOwn W base vl es ∧ Box W w.heap.size [.int .i64 0, .int .i64 0, .int .i64 0, .slice none 0 0] ∧ Live W (w.heap.size + 1) [(27, 4, .slice (some ⟨G, 0, none⟩) 1 1, 1, [.int .i64 s, .int .i64 l, .int .i64 o, u]), (3, 1, v, n, zs.map (Value.int .i64))] ∧ (∀ b, vl.ownBlock = some b → b < w.heap.size) ∧ w.heap.size < G
section
variable {w W W' : World} {base r : Nat} {vl : Value} {es : List Tm.Ent} {G : Nat} {s l o : Int} {u v : Value} {n : Nat} {zs : List Int}
theorem GSt.bel (h : GSt w W base vl es G s l o u v n zs) (hb : Below W.heap.size W W') : GSt w W' base vl es G s l o u v n zs := ⟨h.1.bel hb, h.2.1.bel hb, h.2.2.1.bel hb, h.2.2.2⟩
theorem GSt.kg (h : GSt w W base vl es G s l o u v n zs) (hg : W.grownBy W' (some r)) (hr : r < w.heap.size ∧ r < base) : GSt w W' base vl es G s l o u v n zs := ⟨h.1.kg hg hr.2, h.2.1.kg hg (by omega), h.2.2.1.kg hg (by omega), h.2.2.2⟩
theorem GSt.box (h : GSt w W base vl es G s l o u v n zs) : Box W G [.int .i64 s, .int .i64 l, .int .i64 o, u] := boxRow (h.2.2.1.1 _ (List.mem_cons_self))
theorem GSt.row (h : GSt w W base vl es G s l o u v n zs) : W.ownsRow (w.heap.size + 1) 3 1 v n (zs.map (Value.int .i64)) := h.2.2.1.1 (3, 1, v, n, zs.map (Value.int .i64)) (by simp)
theorem GSt.put (h : GSt w W base vl es G s l o u v n zs) (i : Nat) (x : Value) : EOwn (W.setCell ⟨G, i, none⟩ x) base vl es ∧ Box (W.setCell ⟨G, i, none⟩ x) w.heap.size [.int .i64 0, .int .i64 0, .int .i64 0, .slice none 0 0] ∧ Live (W.setCell ⟨G, i, none⟩ x) (w.heap.size + 1) [(27, 4, .slice (some ⟨G, 0, none⟩) 1 1, 1, [Value.int .i64 s, .int .i64 l, .int .i64 o, u].set i x), (3, 1, v, n, zs.map (Value.int .i64))] := by
  refine ⟨h.1.kptG (grown_cel _ G i x) (fun b hb e => ?_), h.2.1.oth x (by have := h.2.2.2.2; omega), live_put (A := []) h.2.2.1 i x⟩
  have h1 := h.2.2.2.1 b hb
  have h2 := h.2.2.2.2
  simp only [Option.some.injEq] at e
  omega
theorem GSt.put3 (h : GSt w W base vl es G s l o u v n zs) (x : Value) : GSt w (W.setCell ⟨G, 3, none⟩ x) base vl es G s l o x v n zs := ⟨(h.put 3 x).1, (h.put 3 x).2.1, (h.put 3 x).2.2, h.2.2.2⟩
theorem GSt.putS (h : GSt w W base vl es G s l o u v n zs) (x : Int) : GSt w (W.setCell ⟨G, 0, none⟩ (.int .i64 x)) base vl es G x l o u v n zs := ⟨(h.put 0 _).1, (h.put 0 _).2.1, (h.put 0 _).2.2, h.2.2.2⟩
theorem GSt.putL (h : GSt w W base vl es G s l o u v n zs) (x : Int) : GSt w (W.setCell ⟨G, 1, none⟩ (.int .i64 x)) base vl es G s x o u v n zs := ⟨(h.put 1 _).1, (h.put 1 _).2.1, (h.put 1 _).2.2, h.2.2.2⟩
theorem GSt.putO (h : GSt w W base vl es G s l o u v n zs) (x : Int) : GSt w (W.setCell ⟨G, 2, none⟩ (.int .i64 x)) base vl es G s l x u v n zs := ⟨(h.put 2 _).1, (h.put 2 _).2.1, (h.put 2 _).2.2, h.2.2.2⟩
/-- the list grows by one -/
theorem GSt.app {g c9 : Nat} {x : Int} (h : GSt w W base vl es G s l o u v n zs) (hg : W.grownBy W' v.ownBlock) (hown : W'.ownsRow (w.heap.size + 1) 3 1 (.slice (some ⟨g, 0, none⟩) (n + 1) c9) (n + 1) (zs.map (Value.int .i64) ++ [.int .i64 x])) (hl : v.ownBlock = some g ∨ g = W.heap.size) : GSt w W' base vl es G s l o u (.slice (some ⟨g, 0, none⟩) (n + 1) c9) (n + 1) (zs ++ [x]) := by
  have hlt := fun b hb => (h.row.lt b hb).1
  refine ⟨h.1.kptG hg (fun b hb e => ?_), box_kpt h.2.1 hg (fun e => ?_), live_grow (A := [(27, 4, .slice (some ⟨G, 0, none⟩) 1 1, 1, [.int .i64 s, .int .i64 l, .int .i64 o, u])]) (C := []) h.2.2.1 hg (by rw [List.map_append]; exact hown) ?_, h.2.2.2⟩
  · have h1 := h.2.2.2.1 b hb; have h2 := hlt b e.symm; omega
  · have h2 := hlt _ e.symm; omega
  · rcases hl with hl | hl
    · exact .inl hl.symm
    · exact .inr (by rw [hl]; rfl)
theorem GSt.blk (h : GSt w W base vl es G s l o u v n zs) : ∀ b, v.ownBlock = some b → w.heap.size + 1 ≤ b ∧ b < W.heap.size := fun b hb => h.row.lt b hb
end
theorem drawn_ok {zs : List Int} {x : Int} (h : ∀ z ∈ zs, -1 ≤ z ∧ z ≤ 8) (hx : -1 ≤ x ∧ x ≤ 8) : ∀ z ∈ zs ++ [x], -1 ≤ z ∧ z ≤ 8 := by
  intro z hz
  rcases List.mem_append.1 hz with hz | hz
  · exact h z hz
  · rw [List.mem_singleton.1 hz]; exact hx

set_option maxHeartbeats 8000000 in
theorem c25 (r k : Nat) (n : Int) (es : List Tm.Ent) (al : Option Addr) (len cap base : Nat) (w : World) (hk : k ≤ 800000) (hn : 1 ≤ n ∧ n ≤ 1000000) (h : Rd w r k) (hl : es.length = len) (hl2 : len ≤ 41) (hc : len ≤ cap) (hb : r < base) (ho : EOwn w base (.slice al len cap) es) :
    Calls Tryz.prog 25 #[.pointer (some ⟨r, 0, none⟩), .slice al len cap, .int .i64 n] w (GatD w r (k + 30)) := by
  obtain ⟨i0, hi, hz0, hz1, hz2⟩ := info_parts Tryz.info3
  have hrl := h.lt
  have HN := hide hn
  have HLN := hide hl
  have hlt0 := fun b hb => (ho.blk b hb).2
  have HZ := hide (box_new w [.int .i64 0, .int .i64 0, .int .i64 0, .slice none 0 0] 27 (by simp [Value.oneCell']))
  have HG := hide (World.grownBy_alloc w (.cells #[.int .i64 0, .int .i64 0, .int .i64 0, .slice none 0 0] 27) (some r))
  have HRd := hide (h.alloc (.cells #[.int .i64 0, .int .i64 0, .int .i64 0, .slice none 0 0] 27))
  have HO := hide (ho.bel (below_a (.cells #[.int .i64 0, .int .i64 0, .int .i64 0, .slice none 0 0] 27)))
  clear h hn ho hl
  have z0 := (unhide HZ).cell 0 rfl
  have z0f := (unhide HZ).frozen 0 rfl
  have z1 := (unhide HZ).cell 1 rfl
  have z1f := (unhide HZ).frozen 1 rfl
  have z2 := (unhide HZ).cell 2 rfl
  have z2f := (unhide HZ).frozen 2 rfl
  have z3 := (unhide HZ).cell 3 rfl
  have z3f := (unhide HZ).frozen 3 rfl
  go_enter Tryz.func25, Tryz.ntmps25
  go_wp2_with fail
  generalize hs0 : hS [] = s0 at *
  generalize hl0 : hL [] = l0 at *
  generalize ho0 : hO [] = o0 at *
  have HS0 := hide hs0
  have HL0 := hide hl0
  have HO0 := hide ho0
  clear hs0 hl0 ho0
  refine (c70 _).mono ?_
  rintro e w1 ⟨v, rfl, ho, hb⟩
  rw [unhide HS0, unhide HL0, unhide HO0]
  obtain ⟨a0, c0, rfl, hc0, hz0', -, hbk0⟩ := ho.any0
  clear hbk0 HS0 HL0 HO0
  have hws1 : w.heap.size + 1 ≤ w1.heap.size := by have := hb.size; simp only [World.size_alloc] at this; exact this
  have hlv : Live w1 (w.heap.size + 1) [(3, 1, .slice a0 0 c0, 0, ([] : List Int).map (Value.int .i64))] := by
    refine live_new (A := []) (C := []) (live_nil (w.alloc (.cells #[.int .i64 0, .int .i64 0, .int .i64 0, .slice none 0 0] 27)) (w.heap.size + 1)) hb (owns_mono ho.2 (by simp)) (fun k hk => ?_)
    exact (ho.2.lt k hk).1
  have HLV := hide hlv
  clear ho hlv
  (try clear z0 z0f z1 z1f z2 z2f z3 z3f)
  replace HG := hide (grown_bel (unhide HG) hb)
  replace HRd := hide ((unhide HRd).bel hb)
  replace HO := hide ((unhide HO).bel hb)
  replace HZ := hide ((unhide HZ).bel hb)
  clear hb
  have hst : GSt w (w1.alloc (.cells #[.int .i64 s0, .int .i64 l0, .int .i64 o0, .slice a0 0 c0] 27)) base (.slice al len cap) es w1.heap.size s0 l0 o0 (.slice a0 0 c0) (.slice a0 0 c0) 0 [] := ⟨(unhide HO).bel (below_a _), (unhide HZ).bel (below_a _), live_new (A := []) (C := [(3, 1, .slice a0 0 c0, 0, ([] : List Int).map (Value.int .i64))]) (unhide HLV) (below_a _) (World.ownsRow_lit w1 #[.int .i64 s0, .int .i64 l0, .int .i64 o0, .slice a0 0 c0] 1 (by omega) (by decide) rfl) (fun k hk => by simp [Value.ownBlock] at hk; omega), hlt0, by omega⟩
  have HST := hide hst
  clear hst HLV HO HZ hlt0
  replace HRd := hide ((unhide HRd).alloc (.cells #[.int .i64 s0, .int .i64 l0, .int .i64 o0, .slice a0 0 c0] 27))
  replace HG := hide (grown_trans (unhide HG) (World.grownBy_alloc _ (.cells #[.int .i64 s0, .int .i64 l0, .int .i64 o0, .slice a0 0 c0] 27) _))
  have hgw : w.heap.size < w1.heap.size := by omega
  have hgb : w1.heap.size < (w1.alloc (.cells #[.int .i64 s0, .int .i64 l0, .int .i64 o0, .slice a0 0 c0] 27)).heap.size := by simp
  have g0 := (unhide HST).box.cell 0 rfl
  have g0f := (unhide HST).box.frozen 0 rfl
  have g1 := (unhide HST).box.cell 1 rfl
  have g1f := (unhide HST).box.frozen 1 rfl
  have g2 := (unhide HST).box.cell 2 rfl
  have g2f := (unhide HST).box.frozen 2 rfl
  have g3 := (unhide HST).box.cell 3 rfl
  have g3f := (unhide HST).box.frozen 3 rfl
  have z0 := (unhide HST).2.1.cell 0 rfl
  have z0f := (unhide HST).2.1.frozen 0 rfl
  have z1 := (unhide HST).2.1.cell 1 rfl
  have z1f := (unhide HST).2.1.frozen 1 rfl
  have z2 := (unhide HST).2.1.cell 2 rfl
  have z2f := (unhide HST).2.1.frozen 2 rfl
  have z3 := (unhide HST).2.1.cell 3 rfl
  have z3f := (unhide HST).2.1.frozen 3 rfl
  go_wp2_with fail
  (try clear g0 g0f g1 g1f g2 g2f g3 g3f z0 z0f z1 z1f z2 z2f z3 z3f)
  generalize w1.alloc (.cells #[.int .i64 s0, .int .i64 l0, .int .i64 o0, .slice a0 0 c0] 27) = W1 at *
  generalize w1.heap.size = G at *
  clear hgb hws1
  refine (c26 r (k) ((len : Int) + 1) _ (by omega) (unhide HRd)).mono ?_
  rintro e w2 ⟨x, rfl, xa, xb, hr, hg⟩
  have xb := xb (by omega)
  replace HG := hide (grown_trans (unhide HG) hg)
  replace HST := hide ((unhide HST).kg hg (by omega))
  replace HRd := hide hr
  clear hr hg
  generalize hs1 : aS es x = s at *
  generalize hl1 : aL es x = l at *
  generalize ho1 : aO es x = o at *
  generalize hbb1 : aI es x = b at *
  have HS1 := hide hs1
  have HL1 := hide hl1
  have HO1 := hide ho1
  have HB1 := hide hbb1
  clear hs1 hl1 ho1 hbb1
  go_wp2_with fail
  refine (c71 es x al len cap _ (unhide HLN) hc (by omega) ((unhide HST).1.rd (unhide HLN))).mono ?_
  rintro e w3 ⟨rfl, hb⟩
  rw [unhide HS1, unhide HL1, unhide HO1, unhide HB1]
  replace HG := hide (grown_bel (unhide HG) hb)
  replace HRd := hide ((unhide HRd).bel hb)
  replace HST := hide ((unhide HST).bel hb)
  clear hb
  clear HS1 HL1 HO1 HB1
  have hzHX : r < w3.heap.size := (unhide HRd).lt
  replace HG := hide (grown_trans (unhide HG) (World.grownBy_alloc _ (.cells #[.int .i64 s, .int .i64 l, .int .i64 o] 24) _))
  replace HRd := hide ((unhide HRd).alloc (.cells #[.int .i64 s, .int .i64 l, .int .i64 o] 24))
  replace HST := hide ((unhide HST).bel (below_a (.cells #[.int .i64 s, .int .i64 l, .int .i64 o] 24)))
  have HX := hide (box_new w3 [.int .i64 s, .int .i64 l, .int .i64 o] 24 (by simp [Value.oneCell']))
  have x0 := (unhide HX).cell 0 rfl
  have x1 := (unhide HX).cell 1 rfl
  have x2 := (unhide HX).cell 2 rfl
  cases b
  case false =>
    (try clear x0 x1 x2)
    clear HX
    go_wp2_with fail
    have hgs0 := (unhide HST).box.lt
    go_loopw [10] (fun i wr => ∃ (m : Nat) (v : Value) (nn : Nat) (zs : List Int), m ≤ 8 ∧ i = .int .i64 m ∧ zs.length = nn ∧ nn ≤ m ∧ (∀ z ∈ zs, -1 ≤ z ∧ z ≤ 8) ∧ GSt w wr base (.slice al len cap) es G s0 l0 o0 v v nn zs ∧ Rd wr r (k + 1 + m) ∧ w.grownBy wr (some r) ∧ G < wr.heap.size) (fun i _ => 8 - (intOf i).toNat)
    case atStart => exact ⟨0, _, 0, [], by omega, rfl, rfl, by omega, (fun z hz => by simp at hz), unhide HST, unhide HRd, unhide HG, hgs0⟩
    case round =>
      obtain ⟨m, v, nn, zs, hm, rfl, hzl, hnn, hfit, hst, hrd, hg, hgs⟩ := hrel
      clear HST HRd HG hgs0
      obtain ⟨WA, hWA⟩ : ∃ x, x = wr := ⟨_, rfl⟩
      subst hWA
      have HST := hide hst
      have HRd := hide hrd
      have HG := hide hg
      have HFT := hide hfit
      have HZL := hide hzl
      clear hst hrd hg hfit hzl
      by_cases hlt : m < 8
      case neg =>
        obtain rfl : m = 8 := by omega
        obtain ⟨a, c, rfl⟩ := live_form (unhide HST).row
        go_wp2_with fail
        refine (c27 r (k + 1 + 8) n _ (by omega) (unhide HN) (unhide HRd)).mono ?_
        rintro e w4 ⟨b1, rfl, hr, hg⟩
        replace HG := hide (grown_trans (unhide HG) hg)
        replace HST := hide ((unhide HST).kg hg (by omega))
        replace HRd := hide hr
        clear hr hg
        cases b1
        case false =>
          have g0 := (unhide HST).box.cell 0 rfl
          have g0f := (unhide HST).box.frozen 0 rfl
          have g1 := (unhide HST).box.cell 1 rfl
          have g1f := (unhide HST).box.frozen 1 rfl
          have g2 := (unhide HST).box.cell 2 rfl
          have g2f := (unhide HST).box.frozen 2 rfl
          have g3 := (unhide HST).box.cell 3 rfl
          have g3f := (unhide HST).box.frozen 3 rfl
          have z0 := (unhide HST).2.1.cell 0 rfl
          have z0f := (unhide HST).2.1.frozen 0 rfl
          have z1 := (unhide HST).2.1.cell 1 rfl
          have z1f := (unhide HST).2.1.frozen 1 rfl
          have z2 := (unhide HST).2.1.cell 2 rfl
          have z2f := (unhide HST).2.1.frozen 2 rfl
          have z3 := (unhide HST).2.1.cell 3 rfl
          have z3f := (unhide HST).2.1.frozen 3 rfl
          go_wp2_with fail
          (try clear g0 g0f g1 g1f g2 g2f g3 g3f z0 z0f z1 z1f z2 z2f z3 z3f)
          have hzs := (unhide HST).2.1
          have hblk := (unhide HST).blk
          have HOW := hide (show Own _ w.heap.size (.slice a (nn) c) (zs) from ⟨fun z hz => by have := unhide HFT z hz; omega, by have h := owns_mono (unhide HST).row (Nat.le_succ w.heap.size); rw [unhide HZL]; exact h⟩)
          have HZ := hide hzs
          clear hzs
          replace HZ := hide (box_put (unhide HZ) 0 (.int .i64 s0) (by simp))
          replace HRd := hide ((unhide HRd).oth (g := w.heap.size) (i := 0) (.int .i64 s0) hrl)
          replace HG := hide (grown_oth (g := w.heap.size) (i := 0) (unhide HG) (.int .i64 s0) (Nat.le_refl _))
          replace HOW := hide ((unhide HOW).kpt (grown_cel _ w.heap.size 0 (.int .i64 s0)) (fun b hb e => by have := hblk b hb; simp only [Option.some.injEq] at e; omega))
          replace HZ := hide (box_put (unhide HZ) 1 (.int .i64 l0) (by simp))
          replace HRd := hide ((unhide HRd).oth (g := w.heap.size) (i := 1) (.int .i64 l0) hrl)
          replace HG := hide (grown_oth (g := w.heap.size) (i := 1) (unhide HG) (.int .i64 l0) (Nat.le_refl _))
          replace HOW := hide ((unhide HOW).kpt (grown_cel _ w.heap.size 1 (.int .i64 l0)) (fun b hb e => by have := hblk b hb; simp only [Option.some.injEq] at e; omega))
          replace HZ := hide (box_put (unhide HZ) 2 (.int .i64 o0) (by simp))
          replace HRd := hide ((unhide HRd).oth (g := w.heap.size) (i := 2) (.int .i64 o0) hrl)
          replace HG := hide (grown_oth (g := w.heap.size) (i := 2) (unhide HG) (.int .i64 o0) (Nat.le_refl _))
          replace HOW := hide ((unhide HOW).kpt (grown_cel _ w.heap.size 2 (.int .i64 o0)) (fun b hb e => by have := hblk b hb; simp only [Option.some.injEq] at e; omega))
          replace HZ := hide (box_put (unhide HZ) 3 (.slice a (nn) c) (by simp))
          replace HRd := hide ((unhide HRd).oth (g := w.heap.size) (i := 3) (.slice a (nn) c) hrl)
          replace HG := hide (grown_oth (g := w.heap.size) (i := 3) (unhide HG) (.slice a (nn) c) (Nat.le_refl _))
          replace HOW := hide ((unhide HOW).kpt (grown_cel _ w.heap.size 3 (.slice a (nn) c)) (fun b hb e => by have := hblk b hb; simp only [Option.some.injEq] at e; omega))
          exact bodyPost_ret (v := gatV s0 l0 o0 (.slice a (nn) c)) (results_c Tryz.results25 rfl (load_gat (unhide HZ))) rfl ⟨_, _, _, _, _, rfl, (by rw [unhide HZL]; omega), unhide HOW, (unhide HRd).mono (by omega), unhide HG⟩
        go_wp2_with fail
        refine (c26 r (k + 1 + 8 + 1) 2 _ (by omega) (unhide HRd)).mono ?_
        rintro e w5 ⟨y, rfl, ya, yb, hr, hg⟩
        have yb := yb (by omega)
        replace HG := hide (grown_trans (unhide HG) hg)
        replace HST := hide ((unhide HST).kg hg (by omega))
        replace HRd := hide hr
        clear hr hg
        by_cases hy : y = 0
        case pos =>
          subst hy
          go_wp2_with fail
          refine (c72 r (k + 1 + 8 + 1 + 1) 1 es al len cap base _ (by omega) (by omega) (unhide HRd) (unhide HLN) hl2 hc hb (unhide HST).1).mono ?_
          rintro e w6 ⟨s2, l2, o2, rfl, hr, hg⟩
          replace HG := hide (grown_trans (unhide HG) hg)
          replace HST := hide ((unhide HST).kg hg (by omega))
          replace HRd := hide hr
          clear hr hg
          have g0 := (unhide HST).box.cell 0 rfl
          have g0f := (unhide HST).box.frozen 0 rfl
          have g1 := (unhide HST).box.cell 1 rfl
          have g1f := (unhide HST).box.frozen 1 rfl
          have g2 := (unhide HST).box.cell 2 rfl
          have g2f := (unhide HST).box.frozen 2 rfl
          have g3 := (unhide HST).box.cell 3 rfl
          have g3f := (unhide HST).box.frozen 3 rfl
          have z0 := (unhide HST).2.1.cell 0 rfl
          have z0f := (unhide HST).2.1.frozen 0 rfl
          have z1 := (unhide HST).2.1.cell 1 rfl
          have z1f := (unhide HST).2.1.frozen 1 rfl
          have z2 := (unhide HST).2.1.cell 2 rfl
          have z2f := (unhide HST).2.1.frozen 2 rfl
          have z3 := (unhide HST).2.1.cell 3 rfl
          have z3f := (unhide HST).2.1.frozen 3 rfl
          go_wp2_with fail
          (try clear g0 g0f g1 g1f g2 g2f g3 g3f z0 z0f z1 z1f z2 z2f z3 z3f)
          replace HST := hide ((unhide HST).putS (s2))
          replace HRd := hide ((unhide HRd).oth (g := G) (i := 0) (.int .i64 s2) (by omega))
          replace HG := hide (grown_oth (g := G) (i := 0) (unhide HG) (.int .i64 s2) (by omega))
          replace HST := hide ((unhide HST).putL (l2))
          replace HRd := hide ((unhide HRd).oth (g := G) (i := 1) (.int .i64 l2) (by omega))
          replace HG := hide (grown_oth (g := G) (i := 1) (unhide HG) (.int .i64 l2) (by omega))
          replace HST := hide ((unhide HST).putO (o2))
          replace HRd := hide ((unhide HRd).oth (g := G) (i := 2) (.int .i64 o2) (by omega))
          replace HG := hide (grown_oth (g := G) (i := 2) (unhide HG) (.int .i64 o2) (by omega))
          have g0 := (unhide HST).box.cell 0 rfl
          have g0f := (unhide HST).box.frozen 0 rfl
          have g1 := (unhide HST).box.cell 1 rfl
          have g1f := (unhide HST).box.frozen 1 rfl
          have g2 := (unhide HST).box.cell 2 rfl
          have g2f := (unhide HST).box.frozen 2 rfl
          have g3 := (unhide HST).box.cell 3 rfl
          have g3f := (unhide HST).box.frozen 3 rfl
          have z0 := (unhide HST).2.1.cell 0 rfl
          have z0f := (unhide HST).2.1.frozen 0 rfl
          have z1 := (unhide HST).2.1.cell 1 rfl
          have z1f := (unhide HST).2.1.frozen 1 rfl
          have z2 := (unhide HST).2.1.cell 2 rfl
          have z2f := (unhide HST).2.1.frozen 2 rfl
          have z3 := (unhide HST).2.1.cell 3 rfl
          have z3f := (unhide HST).2.1.frozen 3 rfl
          go_wp2_with fail
          (try clear g0 g0f g1 g1f g2 g2f g3 g3f z0 z0f z1 z1f z2 z2f z3 z3f)
          have hzs := (unhide HST).2.1
          have hblk := (unhide HST).blk
          have HOW := hide (show Own _ w.heap.size (.slice a (nn) c) (zs) from ⟨fun z hz => by have := unhide HFT z hz; omega, by have h := owns_mono (unhide HST).row (Nat.le_succ w.heap.size); rw [unhide HZL]; exact h⟩)
          have HZ := hide hzs
          clear hzs
          replace HZ := hide (box_put (unhide HZ) 0 (.int .i64 s2) (by simp))
          replace HRd := hide ((unhide HRd).oth (g := w.heap.size) (i := 0) (.int .i64 s2) hrl)
          replace HG := hide (grown_oth (g := w.heap.size) (i := 0) (unhide HG) (.int .i64 s2) (Nat.le_refl _))
          replace HOW := hide ((unhide HOW).kpt (grown_cel _ w.heap.size 0 (.int .i64 s2)) (fun b hb e => by have := hblk b hb; simp only [Option.some.injEq] at e; omega))
          replace HZ := hide (box_put (unhide HZ) 1 (.int .i64 l2) (by simp))
          replace HRd := hide ((unhide HRd).oth (g := w.heap.size) (i := 1) (.int .i64 l2) hrl)
          replace HG := hide (grown_oth (g := w.heap.size) (i := 1) (unhide HG) (.int .i64 l2) (Nat.le_refl _))
          replace HOW := hide ((unhide HOW).kpt (grown_cel _ w.heap.size 1 (.int .i64 l2)) (fun b hb e => by have := hblk b hb; simp only [Option.some.injEq] at e; omega))
          replace HZ := hide (box_put (unhide HZ) 2 (.int .i64 o2) (by simp))
          replace HRd := hide ((unhide HRd).oth (g := w.heap.size) (i := 2) (.int .i64 o2) hrl)
          replace HG := hide (grown_oth (g := w.heap.size) (i := 2) (unhide HG) (.int .i64 o2) (Nat.le_refl _))
          replace HOW := hide ((unhide HOW).kpt (grown_cel _ w.heap.size 2 (.int .i64 o2)) (fun b hb e => by have := hblk b hb; simp only [Option.some.injEq] at e; omega))
          replace HZ := hide (box_put (unhide HZ) 3 (.slice a (nn) c) (by simp))
          replace HRd := hide ((unhide HRd).oth (g := w.heap.size) (i := 3) (.slice a (nn) c) hrl)
          replace HG := hide (grown_oth (g := w.heap.size) (i := 3) (unhide HG) (.slice a (nn) c) (Nat.le_refl _))
          replace HOW := hide ((unhide HOW).kpt (grown_cel _ w.heap.size 3 (.slice a (nn) c)) (fun b hb e => by have := hblk b hb; simp only [Option.some.injEq] at e; omega))
          exact bodyPost_ret (v := gatV s2 l2 o2 (.slice a (nn) c)) (results_c Tryz.results25 rfl (load_gat (unhide HZ))) rfl ⟨_, _, _, _, _, rfl, (by rw [unhide HZL]; omega), unhide HOW, (unhide HRd).mono (by omega), unhide HG⟩
        have dy : (y == 0) = false := by rw [beq_eq_false_iff_ne]; exact hy
        clear hy
        go_wp2_with fail
        refine wp_region_L (fun w' => Box w' G [.int .i64 s0, .int .i64 l0, .int .i64 o0, .slice a nn c]) [10] (by kernel_rfl) ((unhide HST).box.bel (below_drew w5)) (fun hHeld => ?_)
        refine tkL 0 (some 48) (v := ?_) ?_ ?_
        rotate_left
        · intro w hSw
          first | (go_simp; done) | (go_simp; with_reducible rfl) | with_reducible rfl | rfl
        try simp only [Act.put, List.setIfInBounds_toArray, List.set_cons_zero, List.set_cons_succ]
        refine tkL 1 (some 49) (v := ?_) ?_ ?_
        rotate_left
        · intro w hSw
          have g0 := hSw.cell 0 rfl; have g1 := hSw.cell 1 rfl; have g2 := hSw.cell 2 rfl; have g3 := hSw.cell 3 rfl
          first | (go_simp; done) | (go_simp; with_reducible rfl) | with_reducible rfl | rfl
        try simp only [Act.put, List.setIfInBounds_toArray, List.set_cons_zero, List.set_cons_succ]
        refine tkL 3 (some 51) (v := ?_) ?_ ?_
        rotate_left
        · intro w hSw
          first | (go_simp; done) | (go_simp; with_reducible rfl) | with_reducible rfl | rfl
        try simp only [Act.put, List.setIfInBounds_toArray, List.set_cons_zero, List.set_cons_succ]
        have hb := below_drew w5
        replace HG := hide (grown_bel (unhide HG) hb)
        replace HRd := hide ((unhide HRd).bel hb)
        replace HST := hide ((unhide HST).bel hb)
        clear hb
        generalize w5.drew = V0 at *
        refine twoL 2 4 (oi := { dst := some 50, op := _, type := _, pos := _, after := _, guard := _ }) (oj := { dst := some 52, op := _, type := _, pos := _, after := _, guard := _ }) (fun K hK => ?_) (fun K hK => ?_)
        · skip
          go_simp
          refine hK.out _ _ (hHeld.bel (below_a _)) (fun hHeld => ?_)
          clear hK K
          try simp only [Act.put, List.setIfInBounds_toArray, List.set_cons_zero, List.set_cons_succ]
          have HLr : Lits (V0.alloc (.cells #[.int .i64 (-1), .int .i64 (8), .int .i64 (0)] 3)) V0.heap.size [-1, 8, 0] := lits_new V0 [-1, 8, 0]
          have hgb : r < V0.heap.size := (unhide HRd).lt
          have hb := below_a (w := V0) (.cells #[.int .i64 (-1), .int .i64 (8), .int .i64 (0)] 3)
          replace HG := hide (grown_bel (unhide HG) hb)
          replace HRd := hide ((unhide HRd).bel hb)
          replace HST := hide ((unhide HST).bel hb)
          clear hb
          generalize V0.alloc (.cells #[.int .i64 (-1), .int .i64 (8), .int .i64 (0)] 3) = V1 at *
          generalize V0.heap.size = gb at *
          refine callL 4 (o := { dst := some 52, op := _, type := _, pos := _, after := _, guard := _ }) (fun K hK => ?_)
          go_simp
          go_at_call 26
          refine (c26 r (k + 1 + 8 + 1 + 1) 3 _ (by omega) (unhide HRd)).mono ?_
          rintro e V2 ⟨q, rfl, qa, qb, hr, hg⟩
          have qb := qb (by omega)
          have HLr := HLr.kept hg hgb
          replace HG := hide (grown_trans (unhide HG) hg)
          replace HST := hide ((unhide HST).kg hg (by omega))
          replace HRd := hide hr
          clear hr hg
          try go_wp2_with fail
          refine hK.out _ _ (unhide HST).box (fun hHeld => ?_)
          clear hK K
          try simp only [Act.put, List.setIfInBounds_toArray, List.set_cons_zero, List.set_cons_succ]
          obtain ⟨jN, yy, rfl, hjN, hy, hcy⟩ := lit_val (l := [-1, 8, 0]) HLr qa (by simpa using qb)
          have hj9 : jN < 3 := by simpa using hjN
          have hjI : (jN : Int) < 3 := by omega
          have hjP : (0 : Int) ≤ (jN : Int) := by omega
          have hyb : -1 ≤ yy ∧ yy ≤ 8 := by simp only [List.mem_cons, List.not_mem_nil, or_false] at hy; omega
          clear hy
          refine tkL 5 (some 53) (v := ?_) ?_ ?_
          rotate_left
          · intro w hSw
            first | (go_simp; done) | (go_simp; with_reducible rfl) | with_reducible rfl | rfl
          try simp only [Act.put, List.setIfInBounds_toArray, List.set_cons_zero, List.set_cons_succ]
          refine callL 6 (o := { dst := some 54, op := _, type := _, pos := _, after := _, guard := _ }) (fun K hK => ?_)
          go_simp
          refine hK.out _ _ (unhide HST).box (fun hHeld => ?_)
          clear hK K
          try simp only [Act.put, List.setIfInBounds_toArray, List.set_cons_zero, List.set_cons_succ]
          refine callL 7 (o := { dst := some 55, op := _, type := _, pos := _, after := _, guard := _ }) (fun K hK => ?_)
          go_simp
          refine hK.out _ _ (hHeld.bel (below_a _)) (fun hHeld => ?_)
          clear hK K
          try simp only [Act.put, List.setIfInBounds_toArray, List.set_cons_zero, List.set_cons_succ]
          have hcb : (V2.alloc (.cells #[.int .i64 yy] 3)).cell? ⟨V2.heap.size, 0, none⟩ = some (.int .i64 yy) := by rw [World.cell?_alloc_new]; rfl
          have hb := below_a (w := V2) (.cells #[.int .i64 yy] 3)
          clear hcy HLr
          replace HG := hide (grown_bel (unhide HG) hb)
          replace HRd := hide ((unhide HRd).bel hb)
          replace HST := hide ((unhide HST).bel hb)
          clear hb
          generalize V2.alloc (.cells #[.int .i64 yy] 3) = V5 at *
          generalize V2.heap.size = gd at *
          have hsw : w.heap.size + 1 ≤ V5.heap.size := by have := (unhide HST).box.lt; omega
          refine callL 8 (o := { dst := some 56, op := _, type := _, pos := _, after := _, guard := _ }) (fun K hK => ?_)
          refine step_append_lies _ (by rfl) _ _ 25 (by rfl) (w.heap.size + 1) 3 i0 (.int .i64 0) 1 8 Tryz.underlying25 hi hz0 hz1 hz2 rfl (by decide) (.slice a nn c) _ _ (by rfl) (unhide HST).row ⟨gd, 0, none⟩ 1 1 [.int .i64 yy] (by rfl) rfl (news_one hcb) (by simp [Value.oneCell']) (by decide) (by unfold maxLen; omega) (by omega) hsw _ rfl ?_
          intro g9 cap9 w9 hown hgrow hlie hlt9
          have hblk := (unhide HST).blk
          replace HST := hide ((unhide HST).app hgrow hown hlie)
          replace HRd := hide ((unhide HRd).kept hgrow (fun b hb => by have := hblk b hb; omega))
          replace HG := hide (grown_lies (unhide HG) (fun b hb => by have := hblk b hb; omega) hgrow)
          refine hK.out _ _ (unhide HST).box (fun hHeld => ?_)
          clear hK K hown hgrow hlie hblk hcb
          try simp only [Act.put, List.setIfInBounds_toArray, List.set_cons_zero, List.set_cons_succ]
          refine tkL 9 (some 57) (v := ?_) ?_ ?_
          rotate_left
          · intro w hSw
            first | (go_simp; done) | (go_simp; with_reducible rfl) | with_reducible rfl | rfl
          try simp only [Act.put, List.setIfInBounds_toArray, List.set_cons_zero, List.set_cons_succ]
          have g0 := (unhide HST).box.cell 0 rfl
          have g0f := (unhide HST).box.frozen 0 rfl
          have g1 := (unhide HST).box.cell 1 rfl
          have g1f := (unhide HST).box.frozen 1 rfl
          have g2 := (unhide HST).box.cell 2 rfl
          have g2f := (unhide HST).box.frozen 2 rfl
          have g3 := (unhide HST).box.cell 3 rfl
          have g3f := (unhide HST).box.frozen 3 rfl
          have z0 := (unhide HST).2.1.cell 0 rfl
          have z0f := (unhide HST).2.1.frozen 0 rfl
          have z1 := (unhide HST).2.1.cell 1 rfl
          have z1f := (unhide HST).2.1.frozen 1 rfl
          have z2 := (unhide HST).2.1.cell 2 rfl
          have z2f := (unhide HST).2.1.frozen 2 rfl
          have z3 := (unhide HST).2.1.cell 3 rfl
          have z3f := (unhide HST).2.1.frozen 3 rfl
          refine storeL 10 (o := { dst := none, op := _, type := _, pos := _, after := _, guard := _ }) (fun K hK => ?_)
          go_simp
          (try clear g0 g0f g1 g1f g2 g2f g3 g3f z0 z0f z1 z1f z2 z2f z3 z3f)
          replace HST := hide ((unhide HST).put3 (.slice (some ⟨g9, 0, none⟩) (nn + 1) cap9))
          replace HRd := hide ((unhide HRd).oth (g := G) (i := 3) (.slice (some ⟨g9, 0, none⟩) (nn + 1) cap9) (by omega))
          replace HG := hide (grown_oth (g := G) (i := 3) (unhide HG) (.slice (some ⟨g9, 0, none⟩) (nn + 1) cap9) (by omega))
          refine hK.out _ _ (fun hPh => ?_)
          clear hK K hHeld hPh
          try simp only [Act.put, List.setIfInBounds_toArray, List.set_cons_zero, List.set_cons_succ]
          refine doneL (by kernel_rfl) ?_ _
          have hzl2 : (zs ++ [yy]).length = nn + 1 := by rw [List.length_append, List.length_singleton, unhide HZL]
          have g0 := (unhide HST).box.cell 0 rfl
          have g0f := (unhide HST).box.frozen 0 rfl
          have g1 := (unhide HST).box.cell 1 rfl
          have g1f := (unhide HST).box.frozen 1 rfl
          have g2 := (unhide HST).box.cell 2 rfl
          have g2f := (unhide HST).box.frozen 2 rfl
          have g3 := (unhide HST).box.cell 3 rfl
          have g3f := (unhide HST).box.frozen 3 rfl
          have z0 := (unhide HST).2.1.cell 0 rfl
          have z0f := (unhide HST).2.1.frozen 0 rfl
          have z1 := (unhide HST).2.1.cell 1 rfl
          have z1f := (unhide HST).2.1.frozen 1 rfl
          have z2 := (unhide HST).2.1.cell 2 rfl
          have z2f := (unhide HST).2.1.frozen 2 rfl
          have z3 := (unhide HST).2.1.cell 3 rfl
          have z3f := (unhide HST).2.1.frozen 3 rfl
          go_wp2_with fail
          (try clear g0 g0f g1 g1f g2 g2f g3 g3f z0 z0f z1 z1f z2 z2f z3 z3f)
          have hzs := (unhide HST).2.1
          have hblk := (unhide HST).blk
          have HOW := hide (show Own _ w.heap.size (.slice (some ⟨g9, 0, none⟩) (nn + 1) cap9) (zs ++ [yy]) from ⟨fun z hz => by have := (drawn_ok (unhide HFT) hyb) z hz; omega, by have h := owns_mono (unhide HST).row (Nat.le_succ w.heap.size); rw [hzl2]; exact h⟩)
          have HZ := hide hzs
          clear hzs
          replace HZ := hide (box_put (unhide HZ) 0 (.int .i64 s0) (by simp))
          replace HRd := hide ((unhide HRd).oth (g := w.heap.size) (i := 0) (.int .i64 s0) hrl)
          replace HG := hide (grown_oth (g := w.heap.size) (i := 0) (unhide HG) (.int .i64 s0) (Nat.le_refl _))
          replace HOW := hide ((unhide HOW).kpt (grown_cel _ w.heap.size 0 (.int .i64 s0)) (fun b hb e => by have := hblk b hb; simp only [Option.some.injEq] at e; omega))
          replace HZ := hide (box_put (unhide HZ) 1 (.int .i64 l0) (by simp))
          replace HRd := hide ((unhide HRd).oth (g := w.heap.size) (i := 1) (.int .i64 l0) hrl)
          replace HG := hide (grown_oth (g := w.heap.size) (i := 1) (unhide HG) (.int .i64 l0) (Nat.le_refl _))
          replace HOW := hide ((unhide HOW).kpt (grown_cel _ w.heap.size 1 (.int .i64 l0)) (fun b hb e => by have := hblk b hb; simp only [Option.some.injEq] at e; omega))
          replace HZ := hide (box_put (unhide HZ) 2 (.int .i64 o0) (by simp))
          replace HRd := hide ((unhide HRd).oth (g := w.heap.size) (i := 2) (.int .i64 o0) hrl)
          replace HG := hide (grown_oth (g := w.heap.size) (i := 2) (unhide HG) (.int .i64 o0) (Nat.le_refl _))
          replace HOW := hide ((unhide HOW).kpt (grown_cel _ w.heap.size 2 (.int .i64 o0)) (fun b hb e => by have := hblk b hb; simp only [Option.some.injEq] at e; omega))
          replace HZ := hide (box_put (unhide HZ) 3 (.slice (some ⟨g9, 0, none⟩) (nn + 1) cap9) (by simp))
          replace HRd := hide ((unhide HRd).oth (g := w.heap.size) (i := 3) (.slice (some ⟨g9, 0, none⟩) (nn + 1) cap9) hrl)
          replace HG := hide (grown_oth (g := w.heap.size) (i := 3) (unhide HG) (.slice (some ⟨g9, 0, none⟩) (nn + 1) cap9) (Nat.le_refl _))
          replace HOW := hide ((unhide HOW).kpt (grown_cel _ w.heap.size 3 (.slice (some ⟨g9, 0, none⟩) (nn + 1) cap9)) (fun b hb e => by have := hblk b hb; simp only [Option.some.injEq] at e; omega))
          exact bodyPost_ret (v := gatV s0 l0 o0 (.slice (some ⟨g9, 0, none⟩) (nn + 1) cap9)) (results_c Tryz.results25 rfl (load_gat (unhide HZ))) rfl ⟨_, _, _, _, _, rfl, (by rw [hzl2]; omega), unhide HOW, (unhide HRd).mono (by omega), unhide HG⟩
        · skip
          go_simp
          go_at_call 26
          refine (c26 r (k + 1 + 8 + 1 + 1) 3 _ (by omega) (unhide HRd)).mono ?_
          rintro e V1 ⟨q, rfl, qa, qb, hr, hg⟩
          have qb := qb (by omega)
          replace HG := hide (grown_trans (unhide HG) hg)
          replace HST := hide ((unhide HST).kg hg (by omega))
          replace HRd := hide hr
          clear hr hg
          try go_wp2_with fail
          refine hK.out _ _ (unhide HST).box (fun hHeld => ?_)
          clear hK K
          try simp only [Act.put, List.setIfInBounds_toArray, List.set_cons_zero, List.set_cons_succ]
          refine callL 2 (o := { dst := some 50, op := _, type := _, pos := _, after := _, guard := _ }) (fun K hK => ?_)
          go_simp
          refine hK.out _ _ (hHeld.bel (below_a _)) (fun hHeld => ?_)
          clear hK K
          try simp only [Act.put, List.setIfInBounds_toArray, List.set_cons_zero, List.set_cons_succ]
          have HLr : Lits (V1.alloc (.cells #[.int .i64 (-1), .int .i64 (8), .int .i64 (0)] 3)) V1.heap.size [-1, 8, 0] := lits_new V1 [-1, 8, 0]
          have hgb : r < V1.heap.size := (unhide HRd).lt
          have hb := below_a (w := V1) (.cells #[.int .i64 (-1), .int .i64 (8), .int .i64 (0)] 3)
          replace HG := hide (grown_bel (unhide HG) hb)
          replace HRd := hide ((unhide HRd).bel hb)
          replace HST := hide ((unhide HST).bel hb)
          clear hb
          generalize V1.alloc (.cells #[.int .i64 (-1), .int .i64 (8), .int .i64 (0)] 3) = V2 at *
          generalize V1.heap.size = gb at *
          obtain ⟨jN, yy, rfl, hjN, hy, hcy⟩ := lit_val (l := [-1, 8, 0]) HLr qa (by simpa using qb)
          have hj9 : jN < 3 := by simpa using hjN
          have hjI : (jN : Int) < 3 := by omega
          have hjP : (0 : Int) ≤ (jN : Int) := by omega
          have hyb : -1 ≤ yy ∧ yy ≤ 8 := by simp only [List.mem_cons, List.not_mem_nil, or_false] at hy; omega
          clear hy
          refine tkL 5 (some 53) (v := ?_) ?_ ?_
          rotate_left
          · intro w hSw
            first | (go_simp; done) | (go_simp; with_reducible rfl) | with_reducible rfl | rfl
          try simp only [Act.put, List.setIfInBounds_toArray, List.set_cons_zero, List.set_cons_succ]
          refine callL 6 (o := { dst := some 54, op := _, type := _, pos := _, after := _, guard := _ }) (fun K hK => ?_)
          go_simp
          refine hK.out _ _ (unhide HST).box (fun hHeld => ?_)
          clear hK K
          try simp only [Act.put, List.setIfInBounds_toArray, List.set_cons_zero, List.set_cons_succ]
          refine callL 7 (o := { dst := some 55, op := _, type := _, pos := _, after := _, guard := _ }) (fun K hK => ?_)
          go_simp
          refine hK.out _ _ (hHeld.bel (below_a _)) (fun hHeld => ?_)
          clear hK K
          try simp only [Act.put, List.setIfInBounds_toArray, List.set_cons_zero, List.set_cons_succ]
          have hcb : (V2.alloc (.cells #[.int .i64 yy] 3)).cell? ⟨V2.heap.size, 0, none⟩ = some (.int .i64 yy) := by rw [World.cell?_alloc_new]; rfl
          have hb := below_a (w := V2) (.cells #[.int .i64 yy] 3)
          clear hcy HLr
          replace HG := hide (grown_bel (unhide HG) hb)
          replace HRd := hide ((unhide HRd).bel hb)
          replace HST := hide ((unhide HST).bel hb)
          clear hb
          generalize V2.alloc (.cells #[.int .i64 yy] 3) = V5 at *
          generalize V2.heap.size = gd at *
          have hsw : w.heap.size + 1 ≤ V5.heap.size := by have := (unhide HST).box.lt; omega
          refine callL 8 (o := { dst := some 56, op := _, type := _, pos := _, after := _, guard := _ }) (fun K hK => ?_)
          refine step_append_lies _ (by rfl) _ _ 25 (by rfl) (w.heap.size + 1) 3 i0 (.int .i64 0) 1 8 Tryz.underlying25 hi hz0 hz1 hz2 rfl (by decide) (.slice a nn c) _ _ (by rfl) (unhide HST).row ⟨gd, 0, none⟩ 1 1 [.int .i64 yy] (by rfl) rfl (news_one hcb) (by simp [Value.oneCell']) (by decide) (by unfold maxLen; omega) (by omega) hsw _ rfl ?_
          intro g9 cap9 w9 hown hgrow hlie hlt9
          have hblk := (unhide HST).blk
          replace HST := hide ((unhide HST).app hgrow hown hlie)
          replace HRd := hide ((unhide HRd).kept hgrow (fun b hb => by have := hblk b hb; omega))
          replace HG := hide (grown_lies (unhide HG) (fun b hb => by have := hblk b hb; omega) hgrow)
          refine hK.out _ _ (unhide HST).box (fun hHeld => ?_)
          clear hK K hown hgrow hlie hblk hcb
          try simp only [Act.put, List.setIfInBounds_toArray, List.set_cons_zero, List.set_cons_succ]
          refine tkL 9 (some 57) (v := ?_) ?_ ?_
          rotate_left
          · intro w hSw
            first | (go_simp; done) | (go_simp; with_reducible rfl) | with_reducible rfl | rfl
          try simp only [Act.put, List.setIfInBounds_toArray, List.set_cons_zero, List.set_cons_succ]
          have g0 := (unhide HST).box.cell 0 rfl
          have g0f := (unhide HST).box.frozen 0 rfl
          have g1 := (unhide HST).box.cell 1 rfl
          have g1f := (unhide HST).box.frozen 1 rfl
          have g2 := (unhide HST).box.cell 2 rfl
          have g2f := (unhide HST).box.frozen 2 rfl
          have g3 := (unhide HST).box.cell 3 rfl
          have g3f := (unhide HST).box.frozen 3 rfl
          have z0 := (unhide HST).2.1.cell 0 rfl
          have z0f := (unhide HST).2.1.frozen 0 rfl
          have z1 := (unhide HST).2.1.cell 1 rfl
          have z1f := (unhide HST).2.1.frozen 1 rfl
          have z2 := (unhide HST).2.1.cell 2 rfl
          have z2f := (unhide HST).2.1.frozen 2 rfl
          have z3 := (unhide HST).2.1.cell 3 rfl
          have z3f := (unhide HST).2.1.frozen 3 rfl
          refine storeL 10 (o := { dst := none, op := _, type := _, pos := _, after := _, guard := _ }) (fun K hK => ?_)
          go_simp
          (try clear g0 g0f g1 g1f g2 g2f g3 g3f z0 z0f z1 z1f z2 z2f z3 z3f)
          replace HST := hide ((unhide HST).put3 (.slice (some ⟨g9, 0, none⟩) (nn + 1) cap9))
          replace HRd := hide ((unhide HRd).oth (g := G) (i := 3) (.slice (some ⟨g9, 0, none⟩) (nn + 1) cap9) (by omega))
          replace HG := hide (grown_oth (g := G) (i := 3) (unhide HG) (.slice (some ⟨g9, 0, none⟩) (nn + 1) cap9) (by omega))
          refine hK.out _ _ (fun hPh => ?_)
          clear hK K hHeld hPh
          try simp only [Act.put, List.setIfInBounds_toArray, List.set_cons_zero, List.set_cons_succ]
          refine doneL (by kernel_rfl) ?_ _
          have hzl2 : (zs ++ [yy]).length = nn + 1 := by rw [List.length_append, List.length_singleton, unhide HZL]
          have g0 := (unhide HST).box.cell 0 rfl
          have g0f := (unhide HST).box.frozen 0 rfl
          have g1 := (unhide HST).box.cell 1 rfl
          have g1f := (unhide HST).box.frozen 1 rfl
          have g2 := (unhide HST).box.cell 2 rfl
          have g2f := (unhide HST).box.frozen 2 rfl
          have g3 := (unhide HST).box.cell 3 rfl
          have g3f := (unhide HST).box.frozen 3 rfl
          have z0 := (unhide HST).2.1.cell 0 rfl
          have z0f := (unhide HST).2.1.frozen 0 rfl
          have z1 := (unhide HST).2.1.cell 1 rfl
          have z1f := (unhide HST).2.1.frozen 1 rfl
          have z2 := (unhide HST).2.1.cell 2 rfl
          have z2f := (unhide HST).2.1.frozen 2 rfl
          have z3 := (unhide HST).2.1.cell 3 rfl
          have z3f := (unhide HST).2.1.frozen 3 rfl
          go_wp2_with fail
          (try clear g0 g0f g1 g1f g2 g2f g3 g3f z0 z0f z1 z1f z2 z2f z3 z3f)
          have hzs := (unhide HST).2.1
          have hblk := (unhide HST).blk
          have HOW := hide (show Own _ w.heap.size (.slice (some ⟨g9, 0, none⟩) (nn + 1) cap9) (zs ++ [yy]) from ⟨fun z hz => by have := (drawn_ok (unhide HFT) hyb) z hz; omega, by have h := owns_mono (unhide HST).row (Nat.le_succ w.heap.size); rw [hzl2]; exact h⟩)
          have HZ := hide hzs
          clear hzs
          replace HZ := hide (box_put (unhide HZ) 0 (.int .i64 s0) (by simp))
          replace HRd := hide ((unhide HRd).oth (g := w.heap.size) (i := 0) (.int .i64 s0) hrl)
          replace HG := hide (grown_oth (g := w.heap.size) (i := 0) (unhide HG) (.int .i64 s0) (Nat.le_refl _))
          replace HOW := hide ((unhide HOW).kpt (grown_cel _ w.heap.size 0 (.int .i64 s0)) (fun b hb e => by have := hblk b hb; simp only [Option.some.injEq] at e; omega))
          replace HZ := hide (box_put (unhide HZ) 1 (.int .i64 l0) (by simp))
          replace HRd := hide ((unhide HRd).oth (g := w.heap.size) (i := 1) (.int .i64 l0) hrl)
          replace HG := hide (grown_oth (g := w.heap.size) (i := 1) (unhide HG) (.int .i64 l0) (Nat.le_refl _))
          replace HOW := hide ((unhide HOW).kpt (grown_cel _ w.heap.size 1 (.int .i64 l0)) (fun b hb e => by have := hblk b hb; simp only [Option.some.injEq] at e; omega))
          replace HZ := hide (box_put (unhide HZ) 2 (.int .i64 o0) (by simp))
          replace HRd := hide ((unhide HRd).oth (g := w.heap.size) (i := 2) (.int .i64 o0) hrl)
          replace HG := hide (grown_oth (g := w.heap.size) (i := 2) (unhide HG) (.int .i64 o0) (Nat.le_refl _))
          replace HOW := hide ((unhide HOW).kpt (grown_cel _ w.heap.size 2 (.int .i64 o0)) (fun b hb e => by have := hblk b hb; simp only [Option.some.injEq] at e; omega))
          replace HZ := hide (box_put (unhide HZ) 3 (.slice (some ⟨g9, 0, none⟩) (nn + 1) cap9) (by simp))
          replace HRd := hide ((unhide HRd).oth (g := w.heap.size) (i := 3) (.slice (some ⟨g9, 0, none⟩) (nn + 1) cap9) hrl)
          replace HG := hide (grown_oth (g := w.heap.size) (i := 3) (unhide HG) (.slice (some ⟨g9, 0, none⟩) (nn + 1) cap9) (Nat.le_refl _))
          replace HOW := hide ((unhide HOW).kpt (grown_cel _ w.heap.size 3 (.slice (some ⟨g9, 0, none⟩) (nn + 1) cap9)) (fun b hb e => by have := hblk b hb; simp only [Option.some.injEq] at e; omega))
          exact bodyPost_ret (v := gatV s0 l0 o0 (.slice (some ⟨g9, 0, none⟩) (nn + 1) cap9)) (results_c Tryz.results25 rfl (load_gat (unhide HZ))) rfl ⟨_, _, _, _, _, rfl, (by rw [hzl2]; omega), unhide HOW, (unhide HRd).mono (by omega), unhide HG⟩
      go_wp2_with fail
      refine (c26 r (k + 1 + m) 5 _ (by omega) (unhide HRd)).mono ?_
      rintro e w4 ⟨y, rfl, ya, yb, hr, hg⟩
      have yb := yb (by omega)
      replace HG := hide (grown_trans (unhide HG) hg)
      replace HST := hide ((unhide HST).kg hg (by omega))
      replace HRd := hide hr
      clear hr hg
      by_cases hy : y = 0
      case neg =>
        have dy : (y == 0) = false := by rw [beq_eq_false_iff_ne]; exact hy
        have hsz := (unhide HST).box.lt
        go_wp2_with fail
        go_roundw
        case rel => exact ⟨m + 1, v, nn, zs, by omega, by go_num, unhide HZL, by omega, unhide HFT, unhide HST, unhide HRd, unhide HG, hsz⟩
        case measure => simp [intOf]; omega
      subst hy
      have g0 := (unhide HST).box.cell 0 rfl
      have g0f := (unhide HST).box.frozen 0 rfl
      have g1 := (unhide HST).box.cell 1 rfl
      have g1f := (unhide HST).box.frozen 1 rfl
      have g2 := (unhide HST).box.cell 2 rfl
      have g2f := (unhide HST).box.frozen 2 rfl
      have g3 := (unhide HST).box.cell 3 rfl
      have g3f := (unhide HST).box.frozen 3 rfl
      have z0 := (unhide HST).2.1.cell 0 rfl
      have z0f := (unhide HST).2.1.frozen 0 rfl
      have z1 := (unhide HST).2.1.cell 1 rfl
      have z1f := (unhide HST).2.1.frozen 1 rfl
      have z2 := (unhide HST).2.1.cell 2 rfl
      have z2f := (unhide HST).2.1.frozen 2 rfl
      have z3 := (unhide HST).2.1.cell 3 rfl
      have z3f := (unhide HST).2.1.frozen 3 rfl
      have hsw : w.heap.size + 1 ≤ w4.heap.size := by have := (unhide HST).box.lt; omega
      go_wp2_with (first | (at_builtin; refine wpList_append_lies _ rfl _ _ 25 rfl (w.heap.size + 1) 3 i0 (.int .i64 0) 1 8 Tryz.underlying25 hi hz0 hz1 hz2 rfl (by decide) v _ _ rfl ((unhide HST).row.alloc _) ⟨w4.heap.size, 0, none⟩ 1 1 [.int .i64 (m : Int)] rfl rfl (cell_one_new _ _ _) (by simp [Value.oneCell']) (by omega) (by unfold maxLen; omega) (by omega) (by simp; omega) (w4.heap.size + 1) (by simp) ?_; intro g9 cap9 w9 hown hgrow hlie hlt9; clear g0 g0f g1 g1f g2 g2f g3 g3f z0 z0f z1 z1f z2 z2f z3 z3f; have HST9 := hide (((unhide HST).bel (below_a (.cells #[.int .i64 (m : Int)] 3))).app hgrow hown (by rcases hlie with h | h; (· exact .inl h); (· right; rw [h]; simp only [World.size_alloc]))); have g0 := (unhide HST9).box.cell 0 rfl; have g0f := (unhide HST9).box.frozen 0 rfl; have g1 := (unhide HST9).box.cell 1 rfl; have g1f := (unhide HST9).box.frozen 1 rfl; have g2 := (unhide HST9).box.cell 2 rfl; have g2f := (unhide HST9).box.frozen 2 rfl; have g3 := (unhide HST9).box.cell 3 rfl; have g3f := (unhide HST9).box.frozen 3 rfl) | fail)
      (try clear g0 g0f g1 g1f g2 g2f g3 g3f)
      have hblk := (unhide HST).blk
      replace HRd := hide (((unhide HRd).bel (below_a (.cells #[.int .i64 (m : Int)] 3))).kept hgrow (fun b hb => by have := hblk b hb; omega))
      replace HG := hide (grown_lies (grown_trans (unhide HG) (World.grownBy_alloc _ (.cells #[.int .i64 (m : Int)] 3) _)) (fun b hb => by have := hblk b hb; omega) hgrow)
      clear hown hgrow hlie hblk HST
      have HST := HST9
      clear HST9
      replace HST := hide ((unhide HST).put3 (.slice (some ⟨g9, 0, none⟩) (nn + 1) cap9))
      replace HRd := hide ((unhide HRd).oth (g := G) (i := 3) (.slice (some ⟨g9, 0, none⟩) (nn + 1) cap9) (by omega))
      replace HG := hide (grown_oth (g := G) (i := 3) (unhide HG) (.slice (some ⟨g9, 0, none⟩) (nn + 1) cap9) (by omega))
      have hsz := (unhide HST).box.lt
      go_roundw
      case rel => exact ⟨m + 1, _, nn + 1, zs ++ [(m : Int)], by omega, by go_num, by rw [List.length_append, List.length_singleton, unhide HZL], by omega, drawn_ok (unhide HFT) (by omega), unhide HST, (unhide HRd).mono (by omega), unhide HG, hsz⟩
      case measure => simp [intOf]; omega
  have g0 := (unhide HST).box.cell 0 rfl
  have g0f := (unhide HST).box.frozen 0 rfl
  have g1 := (unhide HST).box.cell 1 rfl
  have g1f := (unhide HST).box.frozen 1 rfl
  have g2 := (unhide HST).box.cell 2 rfl
  have g2f := (unhide HST).box.frozen 2 rfl
  have g3 := (unhide HST).box.cell 3 rfl
  have g3f := (unhide HST).box.frozen 3 rfl
  have z0 := (unhide HST).2.1.cell 0 rfl
  have z0f := (unhide HST).2.1.frozen 0 rfl
  have z1 := (unhide HST).2.1.cell 1 rfl
  have z1f := (unhide HST).2.1.frozen 1 rfl
  have z2 := (unhide HST).2.1.cell 2 rfl
  have z2f := (unhide HST).2.1.frozen 2 rfl
  have z3 := (unhide HST).2.1.cell 3 rfl
  have z3f := (unhide HST).2.1.frozen 3 rfl
  go_wp2_with fail
  (try clear g0 g0f g1 g1f g2 g2f g3 g3f z0 z0f z1 z1f z2 z2f z3 z3f)
  (try clear x0 x1 x2)
  clear HX
  replace HST := hide ((unhide HST).putS (s))
  replace HRd := hide ((unhide HRd).oth (g := G) (i := 0) (.int .i64 s) (by omega))
  replace HG := hide (grown_oth (g := G) (i := 0) (unhide HG) (.int .i64 s) (by omega))
  replace HST := hide ((unhide HST).putL (l))
  replace HRd := hide ((unhide HRd).oth (g := G) (i := 1) (.int .i64 l) (by omega))
  replace HG := hide (grown_oth (g := G) (i := 1) (unhide HG) (.int .i64 l) (by omega))
  replace HST := hide ((unhide HST).putO (o))
  replace HRd := hide ((unhide HRd).oth (g := G) (i := 2) (.int .i64 o) (by omega))
  replace HG := hide (grown_oth (g := G) (i := 2) (unhide HG) (.int .i64 o) (by omega))
  have hgs0 := (unhide HST).box.lt
  go_loopw [10] (fun i wr => ∃ (m : Nat) (v : Value) (nn : Nat) (zs : List Int), m ≤ 8 ∧ i = .int .i64 m ∧ zs.length = nn ∧ nn ≤ m ∧ (∀ z ∈ zs, -1 ≤ z ∧ z ≤ 8) ∧ GSt w wr base (.slice al len cap) es G s l o v v nn zs ∧ Rd wr r (k + 1 + m) ∧ w.grownBy wr (some r) ∧ G < wr.heap.size) (fun i _ => 8 - (intOf i).toNat)
  case atStart => exact ⟨0, _, 0, [], by omega, rfl, rfl, by omega, (fun z hz => by simp at hz), unhide HST, unhide HRd, unhide HG, hgs0⟩
  case round =>
    obtain ⟨m, v, nn, zs, hm, rfl, hzl, hnn, hfit, hst, hrd, hg, hgs⟩ := hrel
    clear HST HRd HG hgs0
    obtain ⟨WA, hWA⟩ : ∃ x, x = wr := ⟨_, rfl⟩
    subst hWA
    have HST := hide hst
    have HRd := hide hrd
    have HG := hide hg
    have HFT := hide hfit
    have HZL := hide hzl
    clear hst hrd hg hfit hzl
    by_cases hlt : m < 8
    case neg =>
      obtain rfl : m = 8 := by omega
      obtain ⟨a, c, rfl⟩ := live_form (unhide HST).row
      go_wp2_with fail
      refine (c27 r (k + 1 + 8) n _ (by omega) (unhide HN) (unhide HRd)).mono ?_
      rintro e w4 ⟨b1, rfl, hr, hg⟩
      replace HG := hide (grown_trans (unhide HG) hg)
      replace HST := hide ((unhide HST).kg hg (by omega))
      replace HRd := hide hr
      clear hr hg
      cases b1
      case false =>
        have g0 := (unhide HST).box.cell 0 rfl
        have g0f := (unhide HST).box.frozen 0 rfl
        have g1 := (unhide HST).box.cell 1 rfl
        have g1f := (unhide HST).box.frozen 1 rfl
        have g2 := (unhide HST).box.cell 2 rfl
        have g2f := (unhide HST).box.frozen 2 rfl
        have g3 := (unhide HST).box.cell 3 rfl
        have g3f := (unhide HST).box.frozen 3 rfl
        have z0 := (unhide HST).2.1.cell 0 rfl
        have z0f := (unhide HST).2.1.frozen 0 rfl
        have z1 := (unhide HST).2.1.cell 1 rfl
        have z1f := (unhide HST).2.1.frozen 1 rfl
        have z2 := (unhide HST).2.1.cell 2 rfl
        have z2f := (unhide HST).2.1.frozen 2 rfl
        have z3 := (unhide HST).2.1.cell 3 rfl
        have z3f := (unhide HST).2.1.frozen 3 rfl
        go_wp2_with fail
        (try clear g0 g0f g1 g1f g2 g2f g3 g3f z0 z0f z1 z1f z2 z2f z3 z3f)
        have hzs := (unhide HST).2.1
        have hblk := (unhide HST).blk
        have HOW := hide (show Own _ w.heap.size (.slice a (nn) c) (zs) from ⟨fun z hz => by have := unhide HFT z hz; omega, by have h := owns_mono (unhide HST).row (Nat.le_succ w.heap.size); rw [unhide HZL]; exact h⟩)
        have HZ := hide hzs
        clear hzs
        replace HZ := hide (box_put (unhide HZ) 0 (.int .i64 s) (by simp))
        replace HRd := hide ((unhide HRd).oth (g := w.heap.size) (i := 0) (.int .i64 s) hrl)
        replace HG := hide (grown_oth (g := w.heap.size) (i := 0) (unhide HG) (.int .i64 s) (Nat.le_refl _))
        replace HOW := hide ((unhide HOW).kpt (grown_cel _ w.heap.size 0 (.int .i64 s)) (fun b hb e => by have := hblk b hb; simp only [Option.some.injEq] at e; omega))
        replace HZ := hide (box_put (unhide HZ) 1 (.int .i64 l) (by simp))
        replace HRd := hide ((unhide HRd).oth (g := w.heap.size) (i := 1) (.int .i64 l) hrl)
        replace HG := hide (grown_oth (g := w.heap.size) (i := 1) (unhide HG) (.int .i64 l) (Nat.le_refl _))
        replace HOW := hide ((unhide HOW).kpt (grown_cel _ w.heap.size 1 (.int .i64 l)) (fun b hb e => by have := hblk b hb; simp only [Option.some.injEq] at e; omega))
        replace HZ := hide (box_put (unhide HZ) 2 (.int .i64 o) (by simp))
        replace HRd := hide ((unhide HRd).oth (g := w.heap.size) (i := 2) (.int .i64 o) hrl)
        replace HG := hide (grown_oth (g := w.heap.size) (i := 2) (unhide HG) (.int .i64 o) (Nat.le_refl _))
        replace HOW := hide ((unhide HOW).kpt (grown_cel _ w.heap.size 2 (.int .i64 o)) (fun b hb e => by have := hblk b hb; simp only [Option.some.injEq] at e; omega))
        replace HZ := hide (box_put (unhide HZ) 3 (.slice a (nn) c) (by simp))
        replace HRd := hide ((unhide HRd).oth (g := w.heap.size) (i := 3) (.slice a (nn) c) hrl)
        replace HG := hide (grown_oth (g := w.heap.size) (i := 3) (unhide HG) (.slice a (nn) c) (Nat.le_refl _))
        replace HOW := hide ((unhide HOW).kpt (grown_cel _ w.heap.size 3 (.slice a (nn) c)) (fun b hb e => by have := hblk b hb; simp only [Option.some.injEq] at e; omega))
        exact bodyPost_ret (v := gatV s l o (.slice a (nn) c)) (results_c Tryz.results25 rfl (load_gat (unhide HZ))) rfl ⟨_, _, _, _, _, rfl, (by rw [unhide HZL]; omega), unhide HOW, (unhide HRd).mono (by omega), unhide HG⟩
      go_wp2_with fail
      refine (c26 r (k + 1 + 8 + 1) 2 _ (by omega) (unhide HRd)).mono ?_
      rintro e w5 ⟨y, rfl, ya, yb, hr, hg⟩
      have yb := yb (by omega)
      replace HG := hide (grown_trans (unhide HG) hg)
      replace HST := hide ((unhide HST).kg hg (by omega))
      replace HRd := hide hr
      clear hr hg
      by_cases hy : y = 0
      case pos =>
        subst hy
        go_wp2_with fail
        refine (c72 r (k + 1 + 8 + 1 + 1) 1 es al len cap base _ (by omega) (by omega) (unhide HRd) (unhide HLN) hl2 hc hb (unhide HST).1).mono ?_
        rintro e w6 ⟨s2, l2, o2, rfl, hr, hg⟩
        replace HG := hide (grown_trans (unhide HG) hg)
        replace HST := hide ((unhide HST).kg hg (by omega))
        replace HRd := hide hr
        clear hr hg
        have g0 := (unhide HST).box.cell 0 rfl
        have g0f := (unhide HST).box.frozen 0 rfl
        have g1 := (unhide HST).box.cell 1 rfl
        have g1f := (unhide HST).box.frozen 1 rfl
        have g2 := (unhide HST).box.cell 2 rfl
        have g2f := (unhide HST).box.frozen 2 rfl
        have g3 := (unhide HST).box.cell 3 rfl
        have g3f := (unhide HST).box.frozen 3 rfl
        have z0 := (unhide HST).2.1.cell 0 rfl
        have z0f := (unhide HST).2.1.frozen 0 rfl
        have z1 := (unhide HST).2.1.cell 1 rfl
        have z1f := (unhide HST).2.1.frozen 1 rfl
        have z2 := (unhide HST).2.1.cell 2 rfl
        have z2f := (unhide HST).2.1.frozen 2 rfl
        have z3 := (unhide HST).2.1.cell 3 rfl
        have z3f := (unhide HST).2.1.frozen 3 rfl
        go_wp2_with fail
        (try clear g0 g0f g1 g1f g2 g2f g3 g3f z0 z0f z1 z1f z2 z2f z3 z3f)
        replace HST := hide ((unhide HST).putS (s2))
        replace HRd := hide ((unhide HRd).oth (g := G) (i := 0) (.int .i64 s2) (by omega))
        replace HG := hide (grown_oth (g := G) (i := 0) (unhide HG) (.int .i64 s2) (by omega))
        replace HST := hide ((unhide HST).putL (l2))
        replace HRd := hide ((unhide HRd).oth (g := G) (i := 1) (.int .i64 l2) (by omega))
        replace HG := hide (grown_oth (g := G) (i := 1) (unhide HG) (.int .i64 l2) (by omega))
        replace HST := hide ((unhide HST).putO (o2))
        replace HRd := hide ((unhide HRd).oth (g := G) (i := 2) (.int .i64 o2) (by omega))
        replace HG := hide (grown_oth (g := G) (i := 2) (unhide HG) (.int .i64 o2) (by omega))
        have g0 := (unhide HST).box.cell 0 rfl
        have g0f := (unhide HST).box.frozen 0 rfl
        have g1 := (unhide HST).box.cell 1 rfl
        have g1f := (unhide HST).box.frozen 1 rfl
        have g2 := (unhide HST).box.cell 2 rfl
        have g2f := (unhide HST).box.frozen 2 rfl
        have g3 := (unhide HST).box.cell 3 rfl
        have g3f := (unhide HST).box.frozen 3 rfl
        have z0 := (unhide HST).2.1.cell 0 rfl
        have z0f := (unhide HST).2.1.frozen 0 rfl
        have z1 := (unhide HST).2.1.cell 1 rfl
        have z1f := (unhide HST).2.1.frozen 1 rfl
        have z2 := (unhide HST).2.1.cell 2 rfl
        have z2f := (unhide HST).2.1.frozen 2 rfl
        have z3 := (unhide HST).2.1.cell 3 rfl
        have z3f := (unhide HST).2.1.frozen 3 rfl
        go_wp2_with fail
        (try clear g0 g0f g1 g1f g2 g2f g3 g3f z0 z0f z1 z1f z2 z2f z3 z3f)
        have hzs := (unhide HST).2.1
        have hblk := (unhide HST).blk
        have HOW := hide (show Own _ w.heap.size (.slice a (nn) c) (zs) from ⟨fun z hz => by have := unhide HFT z hz; omega, by have h := owns_mono (unhide HST).row (Nat.le_succ w.heap.size); rw [unhide HZL]; exact h⟩)
        have HZ := hide hzs
        clear hzs
        replace HZ := hide (box_put (unhide HZ) 0 (.int .i64 s2) (by simp))
        replace HRd := hide ((unhide HRd).oth (g := w.heap.size) (i := 0) (.int .i64 s2) hrl)
        replace HG := hide (grown_oth (g := w.heap.size) (i := 0) (unhide HG) (.int .i64 s2) (Nat.le_refl _))
        replace HOW := hide ((unhide HOW).kpt (grown_cel _ w.heap.size 0 (.int .i64 s2)) (fun b hb e => by have := hblk b hb; simp only [Option.some.injEq] at e; omega))
        replace HZ := hide (box_put (unhide HZ) 1 (.int .i64 l2) (by simp))
        replace HRd := hide ((unhide HRd).oth (g := w.heap.size) (i := 1) (.int .i64 l2) hrl)
        replace HG := hide (grown_oth (g := w.heap.size) (i := 1) (unhide HG) (.int .i64 l2) (Nat.le_refl _))
        replace HOW := hide ((unhide HOW).kpt (grown_cel _ w.heap.size 1 (.int .i64 l2)) (fun b hb e => by have := hblk b hb; simp only [Option.some.injEq] at e; omega))
        replace HZ := hide (box_put (unhide HZ) 2 (.int .i64 o2) (by simp))
        replace HRd := hide ((unhide HRd).oth (g := w.heap.size) (i := 2) (.int .i64 o2) hrl)
        replace HG := hide (grown_oth (g := w.heap.size) (i := 2) (unhide HG) (.int .i64 o2) (Nat.le_refl _))
        replace HOW := hide ((unhide HOW).kpt (grown_cel _ w.heap.size 2 (.int .i64 o2)) (fun b hb e => by have := hblk b hb; simp only [Option.some.injEq] at e; omega))
        replace HZ := hide (box_put (unhide HZ) 3 (.slice a (nn) c) (by simp))
        replace HRd := hide ((unhide HRd).oth (g := w.heap.size) (i := 3) (.slice a (nn) c) hrl)
        replace HG := hide (grown_oth (g := w.heap.size) (i := 3) (unhide HG) (.slice a (nn) c) (Nat.le_refl _))
        replace HOW := hide ((unhide HOW).kpt (grown_cel _ w.heap.size 3 (.slice a (nn) c)) (fun b hb e => by have := hblk b hb; simp only [Option.some.injEq] at e; omega))
        exact bodyPost_ret (v := gatV s2 l2 o2 (.slice a (nn) c)) (results_c Tryz.results25 rfl (load_gat (unhide HZ))) rfl ⟨_, _, _, _, _, rfl, (by rw [unhide HZL]; omega), unhide HOW, (unhide HRd).mono (by omega), unhide HG⟩
      have dy : (y == 0) = false := by rw [beq_eq_false_iff_ne]; exact hy
      clear hy
      go_wp2_with fail
      refine wp_region_L (fun w' => Box w' G [.int .i64 s, .int .i64 l, .int .i64 o, .slice a nn c]) [10] (by kernel_rfl) ((unhide HST).box.bel (below_drew w5)) (fun hHeld => ?_)
      refine tkL 0 (some 48) (v := ?_) ?_ ?_
      rotate_left
      · intro w hSw
        first | (go_simp; done) | (go_simp; with_reducible rfl) | with_reducible rfl | rfl
      try simp only [Act.put, List.setIfInBounds_toArray, List.set_cons_zero, List.set_cons_succ]
      refine tkL 1 (some 49) (v := ?_) ?_ ?_
      rotate_left
      · intro w hSw
        have g0 := hSw.cell 0 rfl; have g1 := hSw.cell 1 rfl; have g2 := hSw.cell 2 rfl; have g3 := hSw.cell 3 rfl
        first | (go_simp; done) | (go_simp; with_reducible rfl) | with_reducible rfl | rfl
      try simp only [Act.put, List.setIfInBounds_toArray, List.set_cons_zero, List.set_cons_succ]
      refine tkL 3 (some 51) (v := ?_) ?_ ?_
      rotate_left
      · intro w hSw
        first | (go_simp; done) | (go_simp; with_reducible rfl) | with_reducible rfl | rfl
      try simp only [Act.put, List.setIfInBounds_toArray, List.set_cons_zero, List.set_cons_succ]
      have hb := below_drew w5
      replace HG := hide (grown_bel (unhide HG) hb)
      replace HRd := hide ((unhide HRd).bel hb)
      replace HST := hide ((unhide HST).bel hb)
      clear hb
      generalize w5.drew = V0 at *
      refine twoL 2 4 (oi := { dst := some 50, op := _, type := _, pos := _, after := _, guard := _ }) (oj := { dst := some 52, op := _, type := _, pos := _, after := _, guard := _ }) (fun K hK => ?_) (fun K hK => ?_)
      · skip
        go_simp
        refine hK.out _ _ (hHeld.bel (below_a _)) (fun hHeld => ?_)
        clear hK K
        try simp only [Act.put, List.setIfInBounds_toArray, List.set_cons_zero, List.set_cons_succ]
        have HLr : Lits (V0.alloc (.cells #[.int .i64 (-1), .int .i64 (8), .int .i64 (0)] 3)) V0.heap.size [-1, 8, 0] := lits_new V0 [-1, 8, 0]
        have hgb : r < V0.heap.size := (unhide HRd).lt
        have hb := below_a (w := V0) (.cells #[.int .i64 (-1), .int .i64 (8), .int .i64 (0)] 3)
        replace HG := hide (grown_bel (unhide HG) hb)
        replace HRd := hide ((unhide HRd).bel hb)
        replace HST := hide ((unhide HST).bel hb)
        clear hb
        generalize V0.alloc (.cells #[.int .i64 (-1), .int .i64 (8), .int .i64 (0)] 3) = V1 at *
        generalize V0.heap.size = gb at *
        refine callL 4 (o := { dst := some 52, op := _, type := _, pos := _, after := _, guard := _ }) (fun K hK => ?_)
        go_simp
        go_at_call 26
        refine (c26 r (k + 1 + 8 + 1 + 1) 3 _ (by omega) (unhide HRd)).mono ?_
        rintro e V2 ⟨q, rfl, qa, qb, hr, hg⟩
        have qb := qb (by omega)
        have HLr := HLr.kept hg hgb
        replace HG := hide (grown_trans (unhide HG) hg)
        replace HST := hide ((unhide HST).kg hg (by omega))
        replace HRd := hide hr
        clear hr hg
        try go_wp2_with fail
        refine hK.out _ _ (unhide HST).box (fun hHeld => ?_)
        clear hK K
        try simp only [Act.put, List.setIfInBounds_toArray, List.set_cons_zero, List.set_cons_succ]
        obtain ⟨jN, yy, rfl, hjN, hy, hcy⟩ := lit_val (l := [-1, 8, 0]) HLr qa (by simpa using qb)
        have hj9 : jN < 3 := by simpa using hjN
        have hjI : (jN : Int) < 3 := by omega
        have hjP : (0 : Int) ≤ (jN : Int) := by omega
        have hyb : -1 ≤ yy ∧ yy ≤ 8 := by simp only [List.mem_cons, List.not_mem_nil, or_false] at hy; omega
        clear hy
        refine tkL 5 (some 53) (v := ?_) ?_ ?_
        rotate_left
        · intro w hSw
          first | (go_simp; done) | (go_simp; with_reducible rfl) | with_reducible rfl | rfl
        try simp only [Act.put, List.setIfInBounds_toArray, List.set_cons_zero, List.set_cons_succ]
        refine callL 6 (o := { dst := some 54, op := _, type := _, pos := _, after := _, guard := _ }) (fun K hK => ?_)
        go_simp
        refine hK.out _ _ (unhide HST).box (fun hHeld => ?_)
        clear hK K
        try simp only [Act.put, List.setIfInBounds_toArray, List.set_cons_zero, List.set_cons_succ]
        refine callL 7 (o := { dst := some 55, op := _, type := _, pos := _, after := _, guard := _ }) (fun K hK => ?_)
        go_simp
        refine hK.out _ _ (hHeld.bel (below_a _)) (fun hHeld => ?_)
        clear hK K
        try simp only [Act.put, List.setIfInBounds_toArray, List.set_cons_zero, List.set_cons_succ]
        have hcb : (V2.alloc (.cells #[.int .i64 yy] 3)).cell? ⟨V2.heap.size, 0, none⟩ = some (.int .i64 yy) := by rw [World.cell?_alloc_new]; rfl
        have hb := below_a (w := V2) (.cells #[.int .i64 yy] 3)
        clear hcy HLr
        replace HG := hide (grown_bel (unhide HG) hb)
        replace HRd := hide ((unhide HRd).bel hb)
        replace HST := hide ((unhide HST).bel hb)
        clear hb
        generalize V2.alloc (.cells #[.int .i64 yy] 3) = V5 at *
        generalize V2.heap.size = gd at *
        have hsw : w.heap.size + 1 ≤ V5.heap.size := by have := (unhide HST).box.lt; omega
        refine callL 8 (o := { dst := some 56, op := _, type := _, pos := _, after := _, guard := _ }) (fun K hK => ?_)
        refine step_append_lies _ (by rfl) _ _ 25 (by rfl) (w.heap.size + 1) 3 i0 (.int .i64 0) 1 8 Tryz.underlying25 hi hz0 hz1 hz2 rfl (by decide) (.slice a nn c) _ _ (by rfl) (unhide HST).row ⟨gd, 0, none⟩ 1 1 [.int .i64 yy] (by rfl) rfl (news_one hcb) (by simp [Value.oneCell']) (by decide) (by unfold maxLen; omega) (by omega) hsw _ rfl ?_
        intro g9 cap9 w9 hown hgrow hlie hlt9
        have hblk := (unhide HST).blk
        replace HST := hide ((unhide HST).app hgrow hown hlie)
        replace HRd := hide ((unhide HRd).kept hgrow (fun b hb => by have := hblk b hb; omega))
        replace HG := hide (grown_lies (unhide HG) (fun b hb => by have := hblk b hb; omega) hgrow)
        refine hK.out _ _ (unhide HST).box (fun hHeld => ?_)
        clear hK K hown hgrow hlie hblk hcb
        try simp only [Act.put, List.setIfInBounds_toArray, List.set_cons_zero, List.set_cons_succ]
        refine tkL 9 (some 57) (v := ?_) ?_ ?_
        rotate_left
        · intro w hSw
          first | (go_simp; done) | (go_simp; with_reducible rfl) | with_reducible rfl | rfl
        try simp only [Act.put, List.setIfInBounds_toArray, List.set_cons_zero, List.set_cons_succ]
        have g0 := (unhide HST).box.cell 0 rfl
        have g0f := (unhide HST).box.frozen 0 rfl
        have g1 := (unhide HST).box.cell 1 rfl
        have g1f := (unhide HST).box.frozen 1 rfl
        have g2 := (unhide HST).box.cell 2 rfl
        have g2f := (unhide HST).box.frozen 2 rfl
        have g3 := (unhide HST).box.cell 3 rfl
        have g3f := (unhide HST).box.frozen 3 rfl
        have z0 := (unhide HST).2.1.cell 0 rfl
        have z0f := (unhide HST).2.1.frozen 0 rfl
        have z1 := (unhide HST).2.1.cell 1 rfl
        have z1f := (unhide HST).2.1.frozen 1 rfl
        have z2 := (unhide HST).2.1.cell 2 rfl
        have z2f := (unhide HST).2.1.frozen 2 rfl
        have z3 := (unhide HST).2.1.cell 3 rfl
        have z3f := (unhide HST).2.1.frozen 3 rfl
        refine storeL 10 (o := { dst := none, op := _, type := _, pos := _, after := _, guard := _ }) (fun K hK => ?_)
        go_simp
        (try clear g0 g0f g1 g1f g2 g2f g3 g3f z0 z0f z1 z1f z2 z2f z3 z3f)
        replace HST := hide ((unhide HST).put3 (.slice (some ⟨g9, 0, none⟩) (nn + 1) cap9))
        replace HRd := hide ((unhide HRd).oth (g := G) (i := 3) (.slice (some ⟨g9, 0, none⟩) (nn + 1) cap9) (by omega))
        replace HG := hide (grown_oth (g := G) (i := 3) (unhide HG) (.slice (some ⟨g9, 0, none⟩) (nn + 1) cap9) (by omega))
        refine hK.out _ _ (fun hPh => ?_)
        clear hK K hHeld hPh
        try simp only [Act.put, List.setIfInBounds_toArray, List.set_cons_zero, List.set_cons_succ]
        refine doneL (by kernel_rfl) ?_ _
        have hzl2 : (zs ++ [yy]).length = nn + 1 := by rw [List.length_append, List.length_singleton, unhide HZL]
        have g0 := (unhide HST).box.cell 0 rfl
        have g0f := (unhide HST).box.frozen 0 rfl
        have g1 := (unhide HST).box.cell 1 rfl
        have g1f := (unhide HST).box.frozen 1 rfl
        have g2 := (unhide HST).box.cell 2 rfl
        have g2f := (unhide HST).box.frozen 2 rfl
        have g3 := (unhide HST).box.cell 3 rfl
        have g3f := (unhide HST).box.frozen 3 rfl
        have z0 := (unhide HST).2.1.cell 0 rfl
        have z0f := (unhide HST).2.1.frozen 0 rfl
        have z1 := (unhide HST).2.1.cell 1 rfl
        have z1f := (unhide HST).2.1.frozen 1 rfl
        have z2 := (unhide HST).2.1.cell 2 rfl
        have z2f := (unhide HST).2.1.frozen 2 rfl
        have z3 := (unhide HST).2.1.cell 3 rfl
        have z3f := (unhide HST).2.1.frozen 3 rfl
        go_wp2_with fail
        (try clear g0 g0f g1 g1f g2 g2f g3 g3f z0 z0f z1 z1f z2 z2f z3 z3f)
        have hzs := (unhide HST).2.1
        have hblk := (unhide HST).blk
        have HOW := hide (show Own _ w.heap.size (.slice (some ⟨g9, 0, none⟩) (nn + 1) cap9) (zs ++ [yy]) from ⟨fun z hz => by have := (drawn_ok (unhide HFT) hyb) z hz; omega, by have h := owns_mono (unhide HST).row (Nat.le_succ w.heap.size); rw [hzl2]; exact h⟩)
        have HZ := hide hzs
        clear hzs
        replace HZ := hide (box_put (unhide HZ) 0 (.int .i64 s) (by simp))
        replace HRd := hide ((unhide HRd).oth (g := w.heap.size) (i := 0) (.int .i64 s) hrl)
        replace HG := hide (grown_oth (g := w.heap.size) (i := 0) (unhide HG) (.int .i64 s) (Nat.le_refl _))
        replace HOW := hide ((unhide HOW).kpt (grown_cel _ w.heap.size 0 (.int .i64 s)) (fun b hb e => by have := hblk b hb; simp only [Option.some.injEq] at e; omega))
        replace HZ := hide (box_put (unhide HZ) 1 (.int .i64 l) (by simp))
        replace HRd := hide ((unhide HRd).oth (g := w.heap.size) (i := 1) (.int .i64 l) hrl)
        replace HG := hide (grown_oth (g := w.heap.size) (i := 1) (unhide HG) (.int .i64 l) (Nat.le_refl _))
        replace HOW := hide ((unhide HOW).kpt (grown_cel _ w.heap.size 1 (.int .i64 l)) (fun b hb e => by have := hblk b hb; simp only [Option.some.injEq] at e; omega))
        replace HZ := hide (box_put (unhide HZ) 2 (.int .i64 o) (by simp))
        replace HRd := hide ((unhide HRd).oth (g := w.heap.size) (i := 2) (.int .i64 o) hrl)
        replace HG := hide (grown_oth (g := w.heap.size) (i := 2) (unhide HG) (.int .i64 o) (Nat.le_refl _))
        replace HOW := hide ((unhide HOW).kpt (grown_cel _ w.heap.size 2 (.int .i64 o)) (fun b hb e => by have := hblk b hb; simp only [Option.some.injEq] at e; omega))
        replace HZ := hide (box_put (unhide HZ) 3 (.slice (some ⟨g9, 0, none⟩) (nn + 1) cap9) (by simp))
        replace HRd := hide ((unhide HRd).oth (g := w.heap.size) (i := 3) (.slice (some ⟨g9, 0, none⟩) (nn + 1) cap9) hrl)
        replace HG := hide (grown_oth (g := w.heap.size) (i := 3) (unhide HG) (.slice (some ⟨g9, 0, none⟩) (nn + 1) cap9) (Nat.le_refl _))
        replace HOW := hide ((unhide HOW).kpt (grown_cel _ w.heap.size 3 (.slice (some ⟨g9, 0, none⟩) (nn + 1) cap9)) (fun b hb e => by have := hblk b hb; simp only [Option.some.injEq] at e; omega))
        exact bodyPost_ret (v := gatV s l o (.slice (some ⟨g9, 0, none⟩) (nn + 1) cap9)) (results_c Tryz.results25 rfl (load_gat (unhide HZ))) rfl ⟨_, _, _, _, _, rfl, (by rw [hzl2]; omega), unhide HOW, (unhide HRd).mono (by omega), unhide HG⟩
      · skip
        go_simp
        go_at_call 26
        refine (c26 r (k + 1 + 8 + 1 + 1) 3 _ (by omega) (unhide HRd)).mono ?_
        rintro e V1 ⟨q, rfl, qa, qb, hr, hg⟩
        have qb := qb (by omega)
        replace HG := hide (grown_trans (unhide HG) hg)
        replace HST := hide ((unhide HST).kg hg (by omega))
        replace HRd := hide hr
        clear hr hg
        try go_wp2_with fail
        refine hK.out _ _ (unhide HST).box (fun hHeld => ?_)
        clear hK K
        try simp only [Act.put, List.setIfInBounds_toArray, List.set_cons_zero, List.set_cons_succ]
        refine callL 2 (o := { dst := some 50, op := _, type := _, pos := _, after := _, guard := _ }) (fun K hK => ?_)
        go_simp
        refine hK.out _ _ (hHeld.bel (below_a _)) (fun hHeld => ?_)
        clear hK K
        try simp only [Act.put, List.setIfInBounds_toArray, List.set_cons_zero, List.set_cons_succ]
        have HLr : Lits (V1.alloc (.cells #[.int .i64 (-1), .int .i64 (8), .int .i64 (0)] 3)) V1.heap.size [-1, 8, 0] := lits_new V1 [-1, 8, 0]
        have hgb : r < V1.heap.size := (unhide HRd).lt
        have hb := below_a (w := V1) (.cells #[.int .i64 (-1), .int .i64 (8), .int .i64 (0)] 3)
        replace HG := hide (grown_bel (unhide HG) hb)
        replace HRd := hide ((unhide HRd).bel hb)
        replace HST := hide ((unhide HST).bel hb)
        clear hb
        generalize V1.alloc (.cells #[.int .i64 (-1), .int .i64 (8), .int .i64 (0)] 3) = V2 at *
        generalize V1.heap.size = gb at *
        obtain ⟨jN, yy, rfl, hjN, hy, hcy⟩ := lit_val (l := [-1, 8, 0]) HLr qa (by simpa using qb)
        have hj9 : jN < 3 := by simpa using hjN
        have hjI : (jN : Int) < 3 := by omega
        have hjP : (0 : Int) ≤ (jN : Int) := by omega
        have hyb : -1 ≤ yy ∧ yy ≤ 8 := by simp only [List.mem_cons, List.not_mem_nil, or_false] at hy; omega
        clear hy
        refine tkL 5 (some 53) (v := ?_) ?_ ?_
        rotate_left
        · intro w hSw
          first | (go_simp; done) | (go_simp; with_reducible rfl) | with_reducible rfl | rfl
        try simp only [Act.put, List.setIfInBounds_toArray, List.set_cons_zero, List.set_cons_succ]
        refine callL 6 (o := { dst := some 54, op := _, type := _, pos := _, after := _, guard := _ }) (fun K hK => ?_)
        go_simp
        refine hK.out _ _ (unhide HST).box (fun hHeld => ?_)
        clear hK K
        try simp only [Act.put, List.setIfInBounds_toArray, List.set_cons_zero, List.set_cons_succ]
        refine callL 7 (o := { dst := some 55, op := _, type := _, pos := _, after := _, guard := _ }) (fun K hK => ?_)
        go_simp
        refine hK.out _ _ (hHeld.bel (below_a _)) (fun hHeld => ?_)
        clear hK K
        try simp only [Act.put, List.setIfInBounds_toArray, List.set_cons_zero, List.set_cons_succ]
        have hcb : (V2.alloc (.cells #[.int .i64 yy] 3)).cell? ⟨V2.heap.size, 0, none⟩ = some (.int .i64 yy) := by rw [World.cell?_alloc_new]; rfl
        have hb := below_a (w := V2) (.cells #[.int .i64 yy] 3)
        clear hcy HLr
        replace HG := hide (grown_bel (unhide HG) hb)
        replace HRd := hide ((unhide HRd).bel hb)
        replace HST := hide ((unhide HST).bel hb)
        clear hb
        generalize V2.alloc (.cells #[.int .i64 yy] 3) = V5 at *
        generalize V2.heap.size = gd at *
        have hsw : w.heap.size + 1 ≤ V5.heap.size := by have := (unhide HST).box.lt; omega
        refine callL 8 (o := { dst := some 56, op := _, type := _, pos := _, after := _, guard := _ }) (fun K hK => ?_)
        refine step_append_lies _ (by rfl) _ _ 25 (by rfl) (w.heap.size + 1) 3 i0 (.int .i64 0) 1 8 Tryz.underlying25 hi hz0 hz1 hz2 rfl (by decide) (.slice a nn c) _ _ (by rfl) (unhide HST).row ⟨gd, 0, none⟩ 1 1 [.int .i64 yy] (by rfl) rfl (news_one hcb) (by simp [Value.oneCell']) (by decide) (by unfold maxLen; omega) (by omega) hsw _ rfl ?_
        intro g9 cap9 w9 hown hgrow hlie hlt9
        have hblk := (unhide HST).blk
        replace HST := hide ((unhide HST).app hgrow hown hlie)
        replace HRd := hide ((unhide HRd).kept hgrow (fun b hb => by have := hblk b hb; omega))
        replace HG := hide (grown_lies (unhide HG) (fun b hb => by have := hblk b hb; omega) hgrow)
        refine hK.out _ _ (unhide HST).box (fun hHeld => ?_)
        clear hK K hown hgrow hlie hblk hcb
        try simp only [Act.put, List.setIfInBounds_toArray, List.set_cons_zero, List.set_cons_succ]
        refine tkL 9 (some 57) (v := ?_) ?_ ?_
        rotate_left
        · intro w hSw
          first | (go_simp; done) | (go_simp; with_reducible rfl) | with_reducible rfl | rfl
        try simp only [Act.put, List.setIfInBounds_toArray, List.set_cons_zero, List.set_cons_succ]
        have g0 := (unhide HST).box.cell 0 rfl
        have g0f := (unhide HST).box.frozen 0 rfl
        have g1 := (unhide HST).box.cell 1 rfl
        have g1f := (unhide HST).box.frozen 1 rfl
        have g2 := (unhide HST).box.cell 2 rfl
        have g2f := (unhide HST).box.frozen 2 rfl
        have g3 := (unhide HST).box.cell 3 rfl
        have g3f := (unhide HST).box.frozen 3 rfl
        have z0 := (unhide HST).2.1.cell 0 rfl
        have z0f := (unhide HST).2.1.frozen 0 rfl
        have z1 := (unhide HST).2.1.cell 1 rfl
        have z1f := (unhide HST).2.1.frozen 1 rfl
        have z2 := (unhide HST).2.1.cell 2 rfl
        have z2f := (unhide HST).2.1.frozen 2 rfl
        have z3 := (unhide HST).2.1.cell 3 rfl
        have z3f := (unhide HST).2.1.frozen 3 rfl
        refine storeL 10 (o := { dst := none, op := _, type := _, pos := _, after := _, guard := _ }) (fun K hK => ?_)
        go_simp
        (try clear g0 g0f g1 g1f g2 g2f g3 g3f z0 z0f z1 z1f z2 z2f z3 z3f)
        replace HST := hide ((unhide HST).put3 (.slice (some ⟨g9, 0, none⟩) (nn + 1) cap9))
        replace HRd := hide ((unhide HRd).oth (g := G) (i := 3) (.slice (some ⟨g9, 0, none⟩) (nn + 1) cap9) (by omega))
        replace HG := hide (grown_oth (g := G) (i := 3) (unhide HG) (.slice (some ⟨g9, 0, none⟩) (nn + 1) cap9) (by omega))
        refine hK.out _ _ (fun hPh => ?_)
        clear hK K hHeld hPh
        try simp only [Act.put, List.setIfInBounds_toArray, List.set_cons_zero, List.set_cons_succ]
        refine doneL (by kernel_rfl) ?_ _
        have hzl2 : (zs ++ [yy]).length = nn + 1 := by rw [List.length_append, List.length_singleton, unhide HZL]
        have g0 := (unhide HST).box.cell 0 rfl
        have g0f := (unhide HST).box.frozen 0 rfl
        have g1 := (unhide HST).box.cell 1 rfl
        have g1f := (unhide HST).box.frozen 1 rfl
        have g2 := (unhide HST).box.cell 2 rfl
        have g2f := (unhide HST).box.frozen 2 rfl
        have g3 := (unhide HST).box.cell 3 rfl
        have g3f := (unhide HST).box.frozen 3 rfl
        have z0 := (unhide HST).2.1.cell 0 rfl
        have z0f := (unhide HST).2.1.frozen 0 rfl
        have z1 := (unhide HST).2.1.cell 1 rfl
        have z1f := (unhide HST).2.1.frozen 1 rfl
        have z2 := (unhide HST).2.1.cell 2 rfl
        have z2f := (unhide HST).2.1.frozen 2 rfl
        have z3 := (unhide HST).2.1.cell 3 rfl
        have z3f := (unhide HST).2.1.frozen 3 rfl
        go_wp2_with fail
        (try clear g0 g0f g1 g1f g2 g2f g3 g3f z0 z0f z1 z1f z2 z2f z3 z3f)
        have hzs := (unhide HST).2.1
        have hblk := (unhide HST).blk
        have HOW := hide (show Own _ w.heap.size (.slice (some ⟨g9, 0, none⟩) (nn + 1) cap9) (zs ++ [yy]) from ⟨fun z hz => by have := (drawn_ok (unhide HFT) hyb) z hz; omega, by have h := owns_mono (unhide HST).row (Nat.le_succ w.heap.size); rw [hzl2]; exact h⟩)
        have HZ := hide hzs
        clear hzs
        replace HZ := hide (box_put (unhide HZ) 0 (.int .i64 s) (by simp))
        replace HRd := hide ((unhide HRd).oth (g := w.heap.size) (i := 0) (.int .i64 s) hrl)
        replace HG := hide (grown_oth (g := w.heap.size) (i := 0) (unhide HG) (.int .i64 s) (Nat.le_refl _))
        replace HOW := hide ((unhide HOW).kpt (grown_cel _ w.heap.size 0 (.int .i64 s)) (fun b hb e => by have := hblk b hb; simp only [Option.some.injEq] at e; omega))
        replace HZ := hide (box_put (unhide HZ) 1 (.int .i64 l) (by simp))
        replace HRd := hide ((unhide HRd).oth (g := w.heap.size) (i := 1) (.int .i64 l) hrl)
        replace HG := hide (grown_oth (g := w.heap.size) (i := 1) (unhide HG) (.int .i64 l) (Nat.le_refl _))
        replace HOW := hide ((unhide HOW).kpt (grown_cel _ w.heap.size 1 (.int .i64 l)) (fun b hb e => by have := hblk b hb; simp only [Option.some.injEq] at e; omega))
        replace HZ := hide (box_put (unhide HZ) 2 (.int .i64 o) (by simp))
        replace HRd := hide ((unhide HRd).oth (g := w.heap.size) (i := 2) (.int .i64 o) hrl)
        replace HG := hide (grown_oth (g := w.heap.size) (i := 2) (unhide HG) (.int .i64 o) (Nat.le_refl _))
        replace HOW := hide ((unhide HOW).kpt (grown_cel _ w.heap.size 2 (.int .i64 o)) (fun b hb e => by have := hblk b hb; simp only [Option.some.injEq] at e; omega))
        replace HZ := hide (box_put (unhide HZ) 3 (.slice (some ⟨g9, 0, none⟩) (nn + 1) cap9) (by simp))
        replace HRd := hide ((unhide HRd).oth (g := w.heap.size) (i := 3) (.slice (some ⟨g9, 0, none⟩) (nn + 1) cap9) hrl)
        replace HG := hide (grown_oth (g := w.heap.size) (i := 3) (unhide HG) (.slice (some ⟨g9, 0, none⟩) (nn + 1) cap9) (Nat.le_refl _))
        replace HOW := hide ((unhide HOW).kpt (grown_cel _ w.heap.size 3 (.slice (some ⟨g9, 0, none⟩) (nn + 1) cap9)) (fun b hb e => by have := hblk b hb; simp only [Option.some.injEq] at e; omega))
        exact bodyPost_ret (v := gatV s l o (.slice (some ⟨g9, 0, none⟩) (nn + 1) cap9)) (results_c Tryz.results25 rfl (load_gat (unhide HZ))) rfl ⟨_, _, _, _, _, rfl, (by rw [hzl2]; omega), unhide HOW, (unhide HRd).mono (by omega), unhide HG⟩
    go_wp2_with fail
    refine (c26 r (k + 1 + m) 5 _ (by omega) (unhide HRd)).mono ?_
    rintro e w4 ⟨y, rfl, ya, yb, hr, hg⟩
    have yb := yb (by omega)
    replace HG := hide (grown_trans (unhide HG) hg)
    replace HST := hide ((unhide HST).kg hg (by omega))
    replace HRd := hide hr
    clear hr hg
    by_cases hy : y = 0
    case neg =>
      have dy : (y == 0) = false := by rw [beq_eq_false_iff_ne]; exact hy
      have hsz := (unhide HST).box.lt
      go_wp2_with fail
      go_roundw
      case rel => exact ⟨m + 1, v, nn, zs, by omega, by go_num, unhide HZL, by omega, unhide HFT, unhide HST, unhide HRd, unhide HG, hsz⟩
      case measure => simp [intOf]; omega
    subst hy
    have g0 := (unhide HST).box.cell 0 rfl
    have g0f := (unhide HST).box.frozen 0 rfl
    have g1 := (unhide HST).box.cell 1 rfl
    have g1f := (unhide HST).box.frozen 1 rfl
    have g2 := (unhide HST).box.cell 2 rfl
    have g2f := (unhide HST).box.frozen 2 rfl
    have g3 := (unhide HST).box.cell 3 rfl
    have g3f := (unhide HST).box.frozen 3 rfl
    have z0 := (unhide HST).2.1.cell 0 rfl
    have z0f := (unhide HST).2.1.frozen 0 rfl
    have z1 := (unhide HST).2.1.cell 1 rfl
    have z1f := (unhide HST).2.1.frozen 1 rfl
    have z2 := (unhide HST).2.1.cell 2 rfl
    have z2f := (unhide HST).2.1.frozen 2 rfl
    have z3 := (unhide HST).2.1.cell 3 rfl
    have z3f := (unhide HST).2.1.frozen 3 rfl
    have hsw : w.heap.size + 1 ≤ w4.heap.size := by have := (unhide HST).box.lt; omega
    go_wp2_with (first | (at_builtin; refine wpList_append_lies _ rfl _ _ 25 rfl (w.heap.size + 1) 3 i0 (.int .i64 0) 1 8 Tryz.underlying25 hi hz0 hz1 hz2 rfl (by decide) v _ _ rfl ((unhide HST).row.alloc _) ⟨w4.heap.size, 0, none⟩ 1 1 [.int .i64 (m : Int)] rfl rfl (cell_one_new _ _ _) (by simp [Value.oneCell']) (by omega) (by unfold maxLen; omega) (by omega) (by simp; omega) (w4.heap.size + 1) (by simp) ?_; intro g9 cap9 w9 hown hgrow hlie hlt9; clear g0 g0f g1 g1f g2 g2f g3 g3f z0 z0f z1 z1f z2 z2f z3 z3f; have HST9 := hide (((unhide HST).bel (below_a (.cells #[.int .i64 (m : Int)] 3))).app hgrow hown (by rcases hlie with h | h; (· exact .inl h); (· right; rw [h]; simp only [World.size_alloc]))); have g0 := (unhide HST9).box.cell 0 rfl; have g0f := (unhide HST9).box.frozen 0 rfl; have g1 := (unhide HST9).box.cell 1 rfl; have g1f := (unhide HST9).box.frozen 1 rfl; have g2 := (unhide HST9).box.cell 2 rfl; have g2f := (unhide HST9).box.frozen 2 rfl; have g3 := (unhide HST9).box.cell 3 rfl; have g3f := (unhide HST9).box.frozen 3 rfl) | fail)
    (try clear g0 g0f g1 g1f g2 g2f g3 g3f)
    have hblk := (unhide HST).blk
    replace HRd := hide (((unhide HRd).bel (below_a (.cells #[.int .i64 (m : Int)] 3))).kept hgrow (fun b hb => by have := hblk b hb; omega))
    replace HG := hide (grown_lies (grown_trans (unhide HG) (World.grownBy_alloc _ (.cells #[.int .i64 (m : Int)] 3) _)) (fun b hb => by have := hblk b hb; omega) hgrow)
    clear hown hgrow hlie hblk HST
    have HST := HST9
    clear HST9
    replace HST := hide ((unhide HST).put3 (.slice (some ⟨g9, 0, none⟩) (nn + 1) cap9))
    replace HRd := hide ((unhide HRd).oth (g := G) (i := 3) (.slice (some ⟨g9, 0, none⟩) (nn + 1) cap9) (by omega))
    replace HG := hide (grown_oth (g := G) (i := 3) (unhide HG) (.slice (some ⟨g9, 0, none⟩) (nn + 1) cap9) (by omega))
    have hsz := (unhide HST).box.lt
    go_roundw
    case rel => exact ⟨m + 1, _, nn + 1, zs ++ [(m : Int)], by omega, by go_num, by rw [List.length_append, List.length_singleton, unhide HZL], by omega, drawn_ok (unhide HFT) (by omega), unhide HST, (unhide HRd).mono (by omega), unhide HG, hsz⟩
    case measure => simp [intOf]; omega
end Go.Proofs.YtmlbphmbffkdnaaGreat
