/-
  A new market: the program and the model.
-/
import Derived.Test.YtmlbphmbffkdnaaHous
import Derived.Test.YtmlbphmbffkdnaaMona
import Derived.Test.YtmlbphmbffkdnaaTkb
namespace Go.Proofs.Ytmlbphmbffkdnaa
open Go.RowKit
set_option linter.unusedVariables false
set_option maxRecDepth 100000

def newH (p : List Int) : House := if Tm.monOk p = true ∧ monSum p ≤ 100000 then ⟨[], p, [], 0, [0, 0, 0, 0, 0], [0, 0, 0, 0, 0]⟩ else ⟨[], [], [], 0, [], []⟩
def HTold (w : World) (h : House) (e : Ending) (w' : World) : Prop := ∃ q, e = .returned (hV q h) ∧ HOwn w' w.heap.size q h ∧ Below w.heap.size w w'
theorem upon_run {α : Type} {P : Program} {o : Oper} {a : Act} {next : Act → World → Prop} {Q : Exit → Act → World → Prop} {w w' : World} {m : Sem α} {k : α → World → Result Next} {x : α}
    (h : Sem.run P m w = .ok x w') (h2 : Oper.upon P o a next Q (k x w')) : Oper.upon P o a next Q ((Sem.run P m w).andThen k) := by
  rw [h]; exact h2
theorem mk5 (w : World) : Sem.run Try.prog (Instr.makeSlice 23 (.int .i64 5) (.int .i64 5)) w = .ok (.slice (some ⟨w.heap.size, 0, none⟩) 5 5) (w.alloc (.cells #[.int .i64 0, .int .i64 0, .int .i64 0, .int .i64 0, .int .i64 0] 3)) := by kernel_rfl
theorem own5 (w : World) : Own (w.alloc (.cells #[.int .i64 0, .int .i64 0, .int .i64 0, .int .i64 0, .int .i64 0] 3)) w.heap.size (.slice (some ⟨w.heap.size, 0, none⟩) 5 5) [0, 0, 0, 0, 0] := by
  refine ⟨fun z hz => ?_, ?_⟩
  · simp at hz; subst hz; omega
  · exact World.ownsRow_lit (base := w.heap.size) (e := 3) (size := 1) w #[.int .i64 0, .int .i64 0, .int .i64 0, .int .i64 0, .int .i64 0] 5 (Nat.le_refl _) (by unfold maxLen; omega) rfl
theorem apt_new {w w' : World} {base : Nat} {v u : Value} {zs ys : List Int} (h : Own w base v zs) (hu : Own w' w.heap.size u ys) : Apt v u := fun b hb e => by
  have h1 := (h.2.lt b hb).2
  have h2 := (hu.2.lt b e.symm).1
  omega
theorem apt_nil (u : Value) : Apt (.slice none 0 0) u := fun b hb => by simp [Value.ownBlock] at hb
theorem apt_nil' (u : Value) : Apt u (.slice none 0 0) := (apt_nil u).symm
theorem eown_nil (w : World) (base : Nat) (h : base ≤ w.heap.size) : EOwn w base (.slice none 0 0) [] := ⟨fun e he => by simp at he, owns_nil w base 4 _ h⟩
theorem down_nil (w : World) (base : Nat) (h : base ≤ w.heap.size) : DOwn w base (.slice none 0 0) [] := ⟨fun e he => by simp at he, owns_nil w base 5 _ h⟩
theorem own_nilM (w : World) (base : Nat) (h : base ≤ w.heap.size) : Own w base (.slice none 0 0) [] := ⟨fun e he => by simp at he, owns_nil w base 1 _ h⟩
theorem newT {w w' : World} {p : List Int} {a1 a4 a5 : Option Addr} {k1 : Nat} (o1 : Own w' w.heap.size (.slice a1 p.length k1) p) (o4 : Own w' w.heap.size (.slice a4 5 5) [0, 0, 0, 0, 0]) (o5 : Own w' w.heap.size (.slice a5 5 5) [0, 0, 0, 0, 0])
    (p14 : Apt (.slice a1 p.length k1) (.slice a4 5 5)) (p15 : Apt (.slice a1 p.length k1) (.slice a5 5 5)) (p45 : Apt (.slice a4 5 5) (.slice a5 5 5)) (hb : Below w.heap.size w w') :
    HTold w ⟨[], p, [], 0, [0, 0, 0, 0, 0], [0, 0, 0, 0, 0]⟩ (.returned (.agg #[.slice none 0 0, .slice a1 p.length k1, .slice none 0 0, .int .i64 0, .slice a4 5 5, .slice a5 5 5])) w' := by
  refine ⟨⟨none, 0, a1, k1, none, 0, a4, 5, a5, 5⟩, rfl, ?_, hb⟩
  refine ⟨eown_nil _ _ hb.size, o1, down_nil _ _ hb.size, o4, o5, ?_⟩
  exact ⟨apt_nil _, apt_nil _, apt_nil _, apt_nil _, apt_nil' _, p14, p15, apt_nil _, apt_nil _, p45⟩
theorem grownC (w : World) (g i : Nat) (v : Value) : w.grownBy (w.setCell ⟨g, i, none⟩ v) (some g) := by
  refine ⟨rfl, rfl, rfl, by simp, fun k hk hne => ?_⟩
  have hgk : g ≠ k := fun e => hne (by rw [e])
  show (w.heap.modify g _)[k]? = _
  rw [Array.getElem?_modify, if_neg hgk]
theorem six_grown (w : World) (g : Nat) (a b c d e f : Value) : w.grownBy ((((((w.setCell ⟨g, 0, none⟩ a).setCell ⟨g, 1, none⟩ b).setCell ⟨g, 2, none⟩ c).setCell ⟨g, 3, none⟩ d).setCell ⟨g, 4, none⟩ e).setCell ⟨g, 5, none⟩ f) (some g) :=
  grow_trans (grow_trans (grow_trans (grow_trans (grow_trans (grownC _ _ _ _) (grownC _ _ _ _)) (grownC _ _ _ _)) (grownC _ _ _ _)) (grownC _ _ _ _)) (grownC _ _ _ _)
theorem box_put6 {w : World} {g : Nat} {x0 x1 x2 x3 x4 x5 : Value} (h : Box w g [x0, x1, x2, x3, x4, x5]) (a b c d e f : Value) : Box ((((((w.setCell ⟨g, 0, none⟩ a).setCell ⟨g, 1, none⟩ b).setCell ⟨g, 2, none⟩ c).setCell ⟨g, 3, none⟩ d).setCell ⟨g, 4, none⟩ e).setCell ⟨g, 5, none⟩ f) g [a, b, c, d, e, f] := h.store [a, b, c, d, e, f] rfl

set_option maxHeartbeats 2000000 in
theorem c21 (p : List Int) (ao : Option Addr) (n cap : Nat) (w : World) (hn : p.length = n) (hm : n ≤ 1048576) (hz : ao = none → cap = 0) (hr : Row w ao p) :
    Calls Try.prog 21 #[.slice ao n cap] w (HTold w (newH p)) := by
  subst hn
  by_cases h1 : Tm.monOk p = true
  case neg =>
    have h1' : Tm.monOk p = false := by simpa using h1
    have HR := hide hr
    have hH : newH p = ⟨[], [], [], 0, [], []⟩ := if_neg (fun h => h1 h.1)
    rw [hH]
    clear hr hH h1
    go_enter Try.func21, Try.ntmps21
    go_wp2_with (first | (go_at_call 105; refine (c105 p _ _ _ _ rfl (by omega) ((unhide HR).bel (below_a _))).mono ?_; rintro e w' ⟨rfl, rfl⟩) | (go_at_call 25; refine (c25 p _ _ _ _ rfl (by omega) ((unhide HR).bel (below_a _))).mono ?_; rintro e w' ⟨rfl, rfl⟩))
    exact bodyPost_ret (v := .agg #[.slice none 0 0, .slice none 0 0, .slice none 0 0, .int .i64 0, .slice none 0 0, .slice none 0 0]) (by simp [results, Try.results21, go_sem]) rfl ⟨⟨none, 0, none, 0, none, 0, none, 0, none, 0⟩, rfl, ⟨eown_nil _ _ (by simp), own_nilM _ _ (by simp), down_nil _ _ (by simp), own_nilM _ _ (by simp), own_nilM _ _ (by simp), apt_nil _, apt_nil _, apt_nil _, apt_nil _, apt_nil _, apt_nil _, apt_nil _, apt_nil _, apt_nil _, apt_nil _⟩, by first | exact below_a _ | exact below_al (below_a _)⟩
  by_cases h2 : monSum p ≤ 100000
  case neg =>
    have h2' : 100000 < monSum p := by omega
    have HR := hide hr
    have hH : newH p = ⟨[], [], [], 0, [], []⟩ := if_neg (fun h => h2 h.2)
    rw [hH]
    clear hr hH h2
    go_enter Try.func21, Try.ntmps21
    go_wp2_with (first | (go_at_call 105; refine (c105 p _ _ _ _ rfl (by omega) ((unhide HR).bel (below_a _))).mono ?_; rintro e w' ⟨rfl, rfl⟩) | (go_at_call 25; refine (c25 p _ _ _ _ rfl (by omega) ((unhide HR).bel (below_a _))).mono ?_; rintro e w' ⟨rfl, rfl⟩))
    exact bodyPost_ret (v := .agg #[.slice none 0 0, .slice none 0 0, .slice none 0 0, .int .i64 0, .slice none 0 0, .slice none 0 0]) (by simp [results, Try.results21, go_sem]) rfl ⟨⟨none, 0, none, 0, none, 0, none, 0, none, 0⟩, rfl, ⟨eown_nil _ _ (by simp), own_nilM _ _ (by simp), down_nil _ _ (by simp), own_nilM _ _ (by simp), own_nilM _ _ (by simp), apt_nil _, apt_nil _, apt_nil _, apt_nil _, apt_nil _, apt_nil _, apt_nil _, apt_nil _, apt_nil _, apt_nil _⟩, by first | exact below_a _ | exact below_al (below_a _)⟩
  have h2' : ¬ (100000 < monSum p) := by omega
  have hH : newH p = ⟨[], p, [], 0, [0, 0, 0, 0, 0], [0, 0, 0, 0, 0]⟩ := if_pos ⟨h1, h2⟩
  rw [hH]
  have HR := hide hr
  have HX' := hide (box_new w [.slice none 0 0, .slice none 0 0, .slice none 0 0, .int .i64 0, .slice none 0 0, .slice none 0 0] 28 (by simp [Value.oneCell']))
  have HB' := hide (below_a (w := w) (.cells #[.slice none 0 0, .slice none 0 0, .slice none 0 0, .int .i64 0, .slice none 0 0, .slice none 0 0] 28))
  have HR' := hide (hr.bel (below_a (.cells #[.slice none 0 0, .slice none 0 0, .slice none 0 0, .int .i64 0, .slice none 0 0, .slice none 0 0] 28)))
  clear hr hH
  go_enter Try.func21, Try.ntmps21
  go_wp2_with (first | (go_at_call 105; refine (c105 p _ _ _ _ rfl (by omega) ((unhide HR).bel (below_a _))).mono ?_; rintro e w' ⟨rfl, rfl⟩) | (go_at_call 25; refine (c25 p _ _ _ _ rfl (by omega) ((unhide HR).bel (below_a _))).mono ?_; rintro e w' ⟨rfl, rfl⟩))
  have HX := (unhide HX').drew
  have HB := below_tr (unhide HB') (below_drew _)
  have HR := (unhide HR').bel (below_drew _)
  have hV0 : w.heap.size < (w.alloc (.cells #[.slice none 0 0, .slice none 0 0, .slice none 0 0, .int .i64 0, .slice none 0 0, .slice none 0 0] 28)).drew.heap.size := HX.lt
  clear HX' HB' HR'
  refine wp_region_held_drew (S := fun _ => True) (by kernel_rfl) trivial (fun hHeld => ?_)
  generalize (w.alloc (.cells #[.slice none 0 0, .slice none 0 0, .slice none 0 0, .int .i64 0, .slice none 0 0, .slice none 0 0] 28)).drew = V0 at *
  have hsz : V0.heap.size ≤ V0.heap.size := Nat.le_refl _
  have hSn : (fun _ : World => True) V0 := trivial
  refine tk 0 (some 12) (v := ?_) ?_ ?_
  rotate_left
  · intro w hSw
    first | (go_simp; done) | (go_simp; with_reducible rfl)
  try simp only [Act.put, List.setIfInBounds_toArray, List.set_cons_zero, List.set_cons_succ]
  clear hSn
  refine wpAnyH_ready (rs := [1, 2, 3]) (by kernel_rfl) (by simp) ?_
  refine AllReadyH.cons (o := { dst := some 13, op := _, type := _, pos := _, after := _, guard := _ }) rfl (fun K hK => ?_) ?_
  · go_simp
    go_at_call 106
    refine (c106 p ao _ cap _ rfl hm hz HR).mono ?_
    rintro e v1 ⟨v, rfl, ho, hb⟩
    obtain ⟨a1, k1, rfl, -, -, -⟩ := ho.row
    have HX := HX.below hb
    have HR := HR.bel hb
    have HB := below_tr HB hb
    have hO1 := ho.mono hsz
    have hsz := Nat.le_trans hsz hb.size
    clear ho hb
    try go_wp2_with fail
    refine hK.out _ _ trivial (fun hHeld => ?_)
    clear hK K hHeld
    try simp only [Act.put, List.setIfInBounds_toArray, List.set_cons_zero, List.set_cons_succ]
    refine wpAnyH_ready (rs := [2, 3]) (by kernel_rfl) (by simp) ?_
    refine AllReadyH.cons (o := { dst := some 14, op := _, type := _, pos := _, after := _, guard := _ }) rfl (fun K hK => ?_) ?_
    · go_simp
      refine upon_run (mk5 _) ?_
      try go_wp2_with fail
      refine hK.out _ _ trivial (fun hHeld => ?_)
      clear hK K hHeld
      try simp only [Act.put, List.setIfInBounds_toArray, List.set_cons_zero, List.set_cons_succ]
      have ho := own5 v1
      have hb : Below v1.heap.size v1 (v1.alloc (.cells #[.int .i64 0, .int .i64 0, .int .i64 0, .int .i64 0, .int .i64 0] 3)) := below_a _
      have A14 := apt_new hO1 ho
      have hO1 := hO1.bel hb
      have HX := HX.below hb
      have HR := HR.bel hb
      have HB := below_tr HB hb
      have hO4 := ho.mono hsz
      have hsz := Nat.le_trans hsz hb.size
      clear ho hb
      generalize (v1.alloc (.cells #[.int .i64 0, .int .i64 0, .int .i64 0, .int .i64 0, .int .i64 0] 3)) = v2 at *
      generalize (some (⟨v1.heap.size, 0, none⟩ : Addr)) = a4 at *
      refine wpAnyH_ready (rs := [3]) (by kernel_rfl) (by simp) ?_
      refine AllReadyH.cons (o := { dst := some 15, op := _, type := _, pos := _, after := _, guard := _ }) rfl (fun K hK => ?_) ?_
      · go_simp
        refine upon_run (mk5 _) ?_
        try go_wp2_with fail
        refine hK.out _ _ trivial (fun hHeld => ?_)
        clear hK K hHeld
        try simp only [Act.put, List.setIfInBounds_toArray, List.set_cons_zero, List.set_cons_succ]
        have ho := own5 v2
        have hb : Below v2.heap.size v2 (v2.alloc (.cells #[.int .i64 0, .int .i64 0, .int .i64 0, .int .i64 0, .int .i64 0] 3)) := below_a _
        have A15 := apt_new hO1 ho
        have A45 := apt_new hO4 ho
        have hO1 := hO1.bel hb
        have hO4 := hO4.bel hb
        have HX := HX.below hb
        have HR := HR.bel hb
        have HB := below_tr HB hb
        have hO5 := ho.mono hsz
        have hsz := Nat.le_trans hsz hb.size
        clear ho hb
        generalize (v2.alloc (.cells #[.int .i64 0, .int .i64 0, .int .i64 0, .int .i64 0, .int .i64 0] 3)) = v3 at *
        generalize (some (⟨v2.heap.size, 0, none⟩ : Addr)) = a5 at *
        have hSn : (fun _ : World => True) v3 := trivial
        refine tk 4 (some 16) (v := ?_) ?_ ?_
        rotate_left
        · intro w hSw
          first | (go_simp; done) | (go_simp; with_reducible rfl)
        try simp only [Act.put, List.setIfInBounds_toArray, List.set_cons_zero, List.set_cons_succ]
        clear hSn
        refine wpAnyH_ready (rs := [5]) (by kernel_rfl) (by simp) ?_
        refine AllReadyH.cons (o := { dst := none, op := _, type := _, pos := _, after := _, guard := _ }) rfl (fun K hK => ?_) ?_
        · have q0 := HX.cell 0 rfl
          have p0 := HX.frozen 0 rfl
          have q1 := HX.cell 1 rfl
          have p1 := HX.frozen 1 rfl
          have q2 := HX.cell 2 rfl
          have p2 := HX.frozen 2 rfl
          have q3 := HX.cell 3 rfl
          have p3 := HX.frozen 3 rfl
          have q4 := HX.cell 4 rfl
          have p4 := HX.frozen 4 rfl
          have q5 := HX.cell 5 rfl
          have p5 := HX.frozen 5 rfl
          go_simp
          try go_wp2_with fail
          refine hK.out _ _ trivial (fun hHeld => ?_)
          clear hK K hHeld
          try simp only [Act.put, List.setIfInBounds_toArray, List.set_cons_zero, List.set_cons_succ]
          have hg := six_grown v3 w.heap.size (.slice none 0 0) (.slice a1 p.length k1) (.slice none 0 0) (.int .i64 0) (.slice a4 5 5) (.slice a5 5 5)
          have HY := box_put6 HX (.slice none 0 0) (.slice a1 p.length k1) (.slice none 0 0) (.int .i64 0) (.slice a4 5 5) (.slice a5 5 5)
          have hne : ∀ (v : Value) (zs : List Int), Own v3 V0.heap.size v zs → ∀ b, v.ownBlock = some b → some b ≠ some w.heap.size := fun v zs ho b hb e => by cases e; have := (ho.2.lt _ hb).1; omega
          have hO1 := (hO1.kpt hg (hne _ _ hO1)).mono (Nat.le_of_lt hV0)
          have hO4 := (hO4.kpt hg (hne _ _ hO4)).mono (Nat.le_of_lt hV0)
          have hO5 := (hO5.kpt hg (hne _ _ hO5)).mono (Nat.le_of_lt hV0)
          have HB := grown_below HB hg (fun k hk => by cases hk; exact Nat.le_refl _)
          have e0 := HY.cell 0 rfl
          have e1 := HY.cell 1 rfl
          have e2 := HY.cell 2 rfl
          have e3 := HY.cell 3 rfl
          have e4 := HY.cell 4 rfl
          have e5 := HY.cell 5 rfl
          clear hg HY HX hne HR q0 p0 q1 p1 q2 p2 q3 p3 q4 p4 q5 p5
          generalize ((((((v3.setCell ⟨w.heap.size, 0, none⟩ (.slice none 0 0)).setCell ⟨w.heap.size, 1, none⟩ (.slice a1 p.length k1)).setCell ⟨w.heap.size, 2, none⟩ (.slice none 0 0)).setCell ⟨w.heap.size, 3, none⟩ (.int .i64 0)).setCell ⟨w.heap.size, 4, none⟩ (.slice a4 5 5)).setCell ⟨w.heap.size, 5, none⟩ (.slice a5 5 5)) = v4 at *
          refine wpAnyH_done (by kernel_rfl) ?_ _
          have HO1 := hide hO1
          have HO4 := hide hO4
          have HO5 := hide hO5
          have HAA := hide (And.intro A14 (And.intro A15 A45))
          have HBB := hide HB
          clear hO1 hO4 hO5 A14 A15 A45 HB
          go_wp2_with fail
          exact bodyPost_ret (v := .agg #[.slice none 0 0, .slice a1 p.length k1, .slice none 0 0, .int .i64 0, .slice a4 5 5, .slice a5 5 5]) (by simp [results, Try.results21, go_sem, e0, e1, e2, e3, e4, e5]) rfl
            (newT (unhide HO1) (unhide HO4) (unhide HO5) (unhide HAA).1 (unhide HAA).2.1 (unhide HAA).2.2 (unhide HBB))
        exact AllReadyH.nil
      exact AllReadyH.nil
    refine AllReadyH.cons (o := { dst := some 15, op := _, type := _, pos := _, after := _, guard := _ }) rfl (fun K hK => ?_) ?_
    · go_simp
      refine upon_run (mk5 _) ?_
      try go_wp2_with fail
      refine hK.out _ _ trivial (fun hHeld => ?_)
      clear hK K hHeld
      try simp only [Act.put, List.setIfInBounds_toArray, List.set_cons_zero, List.set_cons_succ]
      have ho := own5 v1
      have hb : Below v1.heap.size v1 (v1.alloc (.cells #[.int .i64 0, .int .i64 0, .int .i64 0, .int .i64 0, .int .i64 0] 3)) := below_a _
      have A15 := apt_new hO1 ho
      have hO1 := hO1.bel hb
      have HX := HX.below hb
      have HR := HR.bel hb
      have HB := below_tr HB hb
      have hO5 := ho.mono hsz
      have hsz := Nat.le_trans hsz hb.size
      clear ho hb
      generalize (v1.alloc (.cells #[.int .i64 0, .int .i64 0, .int .i64 0, .int .i64 0, .int .i64 0] 3)) = v5 at *
      generalize (some (⟨v1.heap.size, 0, none⟩ : Addr)) = a5 at *
      refine wpAnyH_ready (rs := [2]) (by kernel_rfl) (by simp) ?_
      refine AllReadyH.cons (o := { dst := some 14, op := _, type := _, pos := _, after := _, guard := _ }) rfl (fun K hK => ?_) ?_
      · go_simp
        refine upon_run (mk5 _) ?_
        try go_wp2_with fail
        refine hK.out _ _ trivial (fun hHeld => ?_)
        clear hK K hHeld
        try simp only [Act.put, List.setIfInBounds_toArray, List.set_cons_zero, List.set_cons_succ]
        have ho := own5 v5
        have hb : Below v5.heap.size v5 (v5.alloc (.cells #[.int .i64 0, .int .i64 0, .int .i64 0, .int .i64 0, .int .i64 0] 3)) := below_a _
        have A45 := (apt_new hO5 ho).symm
        have A14 := apt_new hO1 ho
        have hO5 := hO5.bel hb
        have hO1 := hO1.bel hb
        have HX := HX.below hb
        have HR := HR.bel hb
        have HB := below_tr HB hb
        have hO4 := ho.mono hsz
        have hsz := Nat.le_trans hsz hb.size
        clear ho hb
        generalize (v5.alloc (.cells #[.int .i64 0, .int .i64 0, .int .i64 0, .int .i64 0, .int .i64 0] 3)) = v6 at *
        generalize (some (⟨v5.heap.size, 0, none⟩ : Addr)) = a4 at *
        have hSn : (fun _ : World => True) v6 := trivial
        refine tk 4 (some 16) (v := ?_) ?_ ?_
        rotate_left
        · intro w hSw
          first | (go_simp; done) | (go_simp; with_reducible rfl)
        try simp only [Act.put, List.setIfInBounds_toArray, List.set_cons_zero, List.set_cons_succ]
        clear hSn
        refine wpAnyH_ready (rs := [5]) (by kernel_rfl) (by simp) ?_
        refine AllReadyH.cons (o := { dst := none, op := _, type := _, pos := _, after := _, guard := _ }) rfl (fun K hK => ?_) ?_
        · have q0 := HX.cell 0 rfl
          have p0 := HX.frozen 0 rfl
          have q1 := HX.cell 1 rfl
          have p1 := HX.frozen 1 rfl
          have q2 := HX.cell 2 rfl
          have p2 := HX.frozen 2 rfl
          have q3 := HX.cell 3 rfl
          have p3 := HX.frozen 3 rfl
          have q4 := HX.cell 4 rfl
          have p4 := HX.frozen 4 rfl
          have q5 := HX.cell 5 rfl
          have p5 := HX.frozen 5 rfl
          go_simp
          try go_wp2_with fail
          refine hK.out _ _ trivial (fun hHeld => ?_)
          clear hK K hHeld
          try simp only [Act.put, List.setIfInBounds_toArray, List.set_cons_zero, List.set_cons_succ]
          have hg := six_grown v6 w.heap.size (.slice none 0 0) (.slice a1 p.length k1) (.slice none 0 0) (.int .i64 0) (.slice a4 5 5) (.slice a5 5 5)
          have HY := box_put6 HX (.slice none 0 0) (.slice a1 p.length k1) (.slice none 0 0) (.int .i64 0) (.slice a4 5 5) (.slice a5 5 5)
          have hne : ∀ (v : Value) (zs : List Int), Own v6 V0.heap.size v zs → ∀ b, v.ownBlock = some b → some b ≠ some w.heap.size := fun v zs ho b hb e => by cases e; have := (ho.2.lt _ hb).1; omega
          have hO1 := (hO1.kpt hg (hne _ _ hO1)).mono (Nat.le_of_lt hV0)
          have hO4 := (hO4.kpt hg (hne _ _ hO4)).mono (Nat.le_of_lt hV0)
          have hO5 := (hO5.kpt hg (hne _ _ hO5)).mono (Nat.le_of_lt hV0)
          have HB := grown_below HB hg (fun k hk => by cases hk; exact Nat.le_refl _)
          have e0 := HY.cell 0 rfl
          have e1 := HY.cell 1 rfl
          have e2 := HY.cell 2 rfl
          have e3 := HY.cell 3 rfl
          have e4 := HY.cell 4 rfl
          have e5 := HY.cell 5 rfl
          clear hg HY HX hne HR q0 p0 q1 p1 q2 p2 q3 p3 q4 p4 q5 p5
          generalize ((((((v6.setCell ⟨w.heap.size, 0, none⟩ (.slice none 0 0)).setCell ⟨w.heap.size, 1, none⟩ (.slice a1 p.length k1)).setCell ⟨w.heap.size, 2, none⟩ (.slice none 0 0)).setCell ⟨w.heap.size, 3, none⟩ (.int .i64 0)).setCell ⟨w.heap.size, 4, none⟩ (.slice a4 5 5)).setCell ⟨w.heap.size, 5, none⟩ (.slice a5 5 5)) = v7 at *
          refine wpAnyH_done (by kernel_rfl) ?_ _
          have HO1 := hide hO1
          have HO4 := hide hO4
          have HO5 := hide hO5
          have HAA := hide (And.intro A14 (And.intro A15 A45))
          have HBB := hide HB
          clear hO1 hO4 hO5 A14 A15 A45 HB
          go_wp2_with fail
          exact bodyPost_ret (v := .agg #[.slice none 0 0, .slice a1 p.length k1, .slice none 0 0, .int .i64 0, .slice a4 5 5, .slice a5 5 5]) (by simp [results, Try.results21, go_sem, e0, e1, e2, e3, e4, e5]) rfl
            (newT (unhide HO1) (unhide HO4) (unhide HO5) (unhide HAA).1 (unhide HAA).2.1 (unhide HAA).2.2 (unhide HBB))
        exact AllReadyH.nil
      exact AllReadyH.nil
    exact AllReadyH.nil
  refine AllReadyH.cons (o := { dst := some 14, op := _, type := _, pos := _, after := _, guard := _ }) rfl (fun K hK => ?_) ?_
  · go_simp
    refine upon_run (mk5 _) ?_
    try go_wp2_with fail
    refine hK.out _ _ trivial (fun hHeld => ?_)
    clear hK K hHeld
    try simp only [Act.put, List.setIfInBounds_toArray, List.set_cons_zero, List.set_cons_succ]
    have ho := own5 V0
    have hb : Below V0.heap.size V0 (V0.alloc (.cells #[.int .i64 0, .int .i64 0, .int .i64 0, .int .i64 0, .int .i64 0] 3)) := below_a _
    have HX := HX.below hb
    have HR := HR.bel hb
    have HB := below_tr HB hb
    have hO4 := ho.mono hsz
    have hsz := Nat.le_trans hsz hb.size
    clear ho hb
    generalize (V0.alloc (.cells #[.int .i64 0, .int .i64 0, .int .i64 0, .int .i64 0, .int .i64 0] 3)) = v8 at *
    generalize (some (⟨V0.heap.size, 0, none⟩ : Addr)) = a4 at *
    refine wpAnyH_ready (rs := [1, 3]) (by kernel_rfl) (by simp) ?_
    refine AllReadyH.cons (o := { dst := some 13, op := _, type := _, pos := _, after := _, guard := _ }) rfl (fun K hK => ?_) ?_
    · go_simp
      go_at_call 106
      refine (c106 p ao _ cap _ rfl hm hz HR).mono ?_
      rintro e v9 ⟨v, rfl, ho, hb⟩
      obtain ⟨a1, k1, rfl, -, -, -⟩ := ho.row
      have A14 := (apt_new hO4 ho).symm
      have hO4 := hO4.bel hb
      have HX := HX.below hb
      have HR := HR.bel hb
      have HB := below_tr HB hb
      have hO1 := ho.mono hsz
      have hsz := Nat.le_trans hsz hb.size
      clear ho hb
      try go_wp2_with fail
      refine hK.out _ _ trivial (fun hHeld => ?_)
      clear hK K hHeld
      try simp only [Act.put, List.setIfInBounds_toArray, List.set_cons_zero, List.set_cons_succ]
      refine wpAnyH_ready (rs := [3]) (by kernel_rfl) (by simp) ?_
      refine AllReadyH.cons (o := { dst := some 15, op := _, type := _, pos := _, after := _, guard := _ }) rfl (fun K hK => ?_) ?_
      · go_simp
        refine upon_run (mk5 _) ?_
        try go_wp2_with fail
        refine hK.out _ _ trivial (fun hHeld => ?_)
        clear hK K hHeld
        try simp only [Act.put, List.setIfInBounds_toArray, List.set_cons_zero, List.set_cons_succ]
        have ho := own5 v9
        have hb : Below v9.heap.size v9 (v9.alloc (.cells #[.int .i64 0, .int .i64 0, .int .i64 0, .int .i64 0, .int .i64 0] 3)) := below_a _
        have A15 := apt_new hO1 ho
        have A45 := apt_new hO4 ho
        have hO1 := hO1.bel hb
        have hO4 := hO4.bel hb
        have HX := HX.below hb
        have HR := HR.bel hb
        have HB := below_tr HB hb
        have hO5 := ho.mono hsz
        have hsz := Nat.le_trans hsz hb.size
        clear ho hb
        generalize (v9.alloc (.cells #[.int .i64 0, .int .i64 0, .int .i64 0, .int .i64 0, .int .i64 0] 3)) = v10 at *
        generalize (some (⟨v9.heap.size, 0, none⟩ : Addr)) = a5 at *
        have hSn : (fun _ : World => True) v10 := trivial
        refine tk 4 (some 16) (v := ?_) ?_ ?_
        rotate_left
        · intro w hSw
          first | (go_simp; done) | (go_simp; with_reducible rfl)
        try simp only [Act.put, List.setIfInBounds_toArray, List.set_cons_zero, List.set_cons_succ]
        clear hSn
        refine wpAnyH_ready (rs := [5]) (by kernel_rfl) (by simp) ?_
        refine AllReadyH.cons (o := { dst := none, op := _, type := _, pos := _, after := _, guard := _ }) rfl (fun K hK => ?_) ?_
        · have q0 := HX.cell 0 rfl
          have p0 := HX.frozen 0 rfl
          have q1 := HX.cell 1 rfl
          have p1 := HX.frozen 1 rfl
          have q2 := HX.cell 2 rfl
          have p2 := HX.frozen 2 rfl
          have q3 := HX.cell 3 rfl
          have p3 := HX.frozen 3 rfl
          have q4 := HX.cell 4 rfl
          have p4 := HX.frozen 4 rfl
          have q5 := HX.cell 5 rfl
          have p5 := HX.frozen 5 rfl
          go_simp
          try go_wp2_with fail
          refine hK.out _ _ trivial (fun hHeld => ?_)
          clear hK K hHeld
          try simp only [Act.put, List.setIfInBounds_toArray, List.set_cons_zero, List.set_cons_succ]
          have hg := six_grown v10 w.heap.size (.slice none 0 0) (.slice a1 p.length k1) (.slice none 0 0) (.int .i64 0) (.slice a4 5 5) (.slice a5 5 5)
          have HY := box_put6 HX (.slice none 0 0) (.slice a1 p.length k1) (.slice none 0 0) (.int .i64 0) (.slice a4 5 5) (.slice a5 5 5)
          have hne : ∀ (v : Value) (zs : List Int), Own v10 V0.heap.size v zs → ∀ b, v.ownBlock = some b → some b ≠ some w.heap.size := fun v zs ho b hb e => by cases e; have := (ho.2.lt _ hb).1; omega
          have hO1 := (hO1.kpt hg (hne _ _ hO1)).mono (Nat.le_of_lt hV0)
          have hO4 := (hO4.kpt hg (hne _ _ hO4)).mono (Nat.le_of_lt hV0)
          have hO5 := (hO5.kpt hg (hne _ _ hO5)).mono (Nat.le_of_lt hV0)
          have HB := grown_below HB hg (fun k hk => by cases hk; exact Nat.le_refl _)
          have e0 := HY.cell 0 rfl
          have e1 := HY.cell 1 rfl
          have e2 := HY.cell 2 rfl
          have e3 := HY.cell 3 rfl
          have e4 := HY.cell 4 rfl
          have e5 := HY.cell 5 rfl
          clear hg HY HX hne HR q0 p0 q1 p1 q2 p2 q3 p3 q4 p4 q5 p5
          generalize ((((((v10.setCell ⟨w.heap.size, 0, none⟩ (.slice none 0 0)).setCell ⟨w.heap.size, 1, none⟩ (.slice a1 p.length k1)).setCell ⟨w.heap.size, 2, none⟩ (.slice none 0 0)).setCell ⟨w.heap.size, 3, none⟩ (.int .i64 0)).setCell ⟨w.heap.size, 4, none⟩ (.slice a4 5 5)).setCell ⟨w.heap.size, 5, none⟩ (.slice a5 5 5)) = v11 at *
          refine wpAnyH_done (by kernel_rfl) ?_ _
          have HO1 := hide hO1
          have HO4 := hide hO4
          have HO5 := hide hO5
          have HAA := hide (And.intro A14 (And.intro A15 A45))
          have HBB := hide HB
          clear hO1 hO4 hO5 A14 A15 A45 HB
          go_wp2_with fail
          exact bodyPost_ret (v := .agg #[.slice none 0 0, .slice a1 p.length k1, .slice none 0 0, .int .i64 0, .slice a4 5 5, .slice a5 5 5]) (by simp [results, Try.results21, go_sem, e0, e1, e2, e3, e4, e5]) rfl
            (newT (unhide HO1) (unhide HO4) (unhide HO5) (unhide HAA).1 (unhide HAA).2.1 (unhide HAA).2.2 (unhide HBB))
        exact AllReadyH.nil
      exact AllReadyH.nil
    refine AllReadyH.cons (o := { dst := some 15, op := _, type := _, pos := _, after := _, guard := _ }) rfl (fun K hK => ?_) ?_
    · go_simp
      refine upon_run (mk5 _) ?_
      try go_wp2_with fail
      refine hK.out _ _ trivial (fun hHeld => ?_)
      clear hK K hHeld
      try simp only [Act.put, List.setIfInBounds_toArray, List.set_cons_zero, List.set_cons_succ]
      have ho := own5 v8
      have hb : Below v8.heap.size v8 (v8.alloc (.cells #[.int .i64 0, .int .i64 0, .int .i64 0, .int .i64 0, .int .i64 0] 3)) := below_a _
      have A45 := apt_new hO4 ho
      have hO4 := hO4.bel hb
      have HX := HX.below hb
      have HR := HR.bel hb
      have HB := below_tr HB hb
      have hO5 := ho.mono hsz
      have hsz := Nat.le_trans hsz hb.size
      clear ho hb
      generalize (v8.alloc (.cells #[.int .i64 0, .int .i64 0, .int .i64 0, .int .i64 0, .int .i64 0] 3)) = v12 at *
      generalize (some (⟨v8.heap.size, 0, none⟩ : Addr)) = a5 at *
      refine wpAnyH_ready (rs := [1]) (by kernel_rfl) (by simp) ?_
      refine AllReadyH.cons (o := { dst := some 13, op := _, type := _, pos := _, after := _, guard := _ }) rfl (fun K hK => ?_) ?_
      · go_simp
        go_at_call 106
        refine (c106 p ao _ cap _ rfl hm hz HR).mono ?_
        rintro e v13 ⟨v, rfl, ho, hb⟩
        obtain ⟨a1, k1, rfl, -, -, -⟩ := ho.row
        have A15 := (apt_new hO5 ho).symm
        have A14 := (apt_new hO4 ho).symm
        have hO5 := hO5.bel hb
        have hO4 := hO4.bel hb
        have HX := HX.below hb
        have HR := HR.bel hb
        have HB := below_tr HB hb
        have hO1 := ho.mono hsz
        have hsz := Nat.le_trans hsz hb.size
        clear ho hb
        try go_wp2_with fail
        refine hK.out _ _ trivial (fun hHeld => ?_)
        clear hK K hHeld
        try simp only [Act.put, List.setIfInBounds_toArray, List.set_cons_zero, List.set_cons_succ]
        have hSn : (fun _ : World => True) v13 := trivial
        refine tk 4 (some 16) (v := ?_) ?_ ?_
        rotate_left
        · intro w hSw
          first | (go_simp; done) | (go_simp; with_reducible rfl)
        try simp only [Act.put, List.setIfInBounds_toArray, List.set_cons_zero, List.set_cons_succ]
        clear hSn
        refine wpAnyH_ready (rs := [5]) (by kernel_rfl) (by simp) ?_
        refine AllReadyH.cons (o := { dst := none, op := _, type := _, pos := _, after := _, guard := _ }) rfl (fun K hK => ?_) ?_
        · have q0 := HX.cell 0 rfl
          have p0 := HX.frozen 0 rfl
          have q1 := HX.cell 1 rfl
          have p1 := HX.frozen 1 rfl
          have q2 := HX.cell 2 rfl
          have p2 := HX.frozen 2 rfl
          have q3 := HX.cell 3 rfl
          have p3 := HX.frozen 3 rfl
          have q4 := HX.cell 4 rfl
          have p4 := HX.frozen 4 rfl
          have q5 := HX.cell 5 rfl
          have p5 := HX.frozen 5 rfl
          go_simp
          try go_wp2_with fail
          refine hK.out _ _ trivial (fun hHeld => ?_)
          clear hK K hHeld
          try simp only [Act.put, List.setIfInBounds_toArray, List.set_cons_zero, List.set_cons_succ]
          have hg := six_grown v13 w.heap.size (.slice none 0 0) (.slice a1 p.length k1) (.slice none 0 0) (.int .i64 0) (.slice a4 5 5) (.slice a5 5 5)
          have HY := box_put6 HX (.slice none 0 0) (.slice a1 p.length k1) (.slice none 0 0) (.int .i64 0) (.slice a4 5 5) (.slice a5 5 5)
          have hne : ∀ (v : Value) (zs : List Int), Own v13 V0.heap.size v zs → ∀ b, v.ownBlock = some b → some b ≠ some w.heap.size := fun v zs ho b hb e => by cases e; have := (ho.2.lt _ hb).1; omega
          have hO1 := (hO1.kpt hg (hne _ _ hO1)).mono (Nat.le_of_lt hV0)
          have hO4 := (hO4.kpt hg (hne _ _ hO4)).mono (Nat.le_of_lt hV0)
          have hO5 := (hO5.kpt hg (hne _ _ hO5)).mono (Nat.le_of_lt hV0)
          have HB := grown_below HB hg (fun k hk => by cases hk; exact Nat.le_refl _)
          have e0 := HY.cell 0 rfl
          have e1 := HY.cell 1 rfl
          have e2 := HY.cell 2 rfl
          have e3 := HY.cell 3 rfl
          have e4 := HY.cell 4 rfl
          have e5 := HY.cell 5 rfl
          clear hg HY HX hne HR q0 p0 q1 p1 q2 p2 q3 p3 q4 p4 q5 p5
          generalize ((((((v13.setCell ⟨w.heap.size, 0, none⟩ (.slice none 0 0)).setCell ⟨w.heap.size, 1, none⟩ (.slice a1 p.length k1)).setCell ⟨w.heap.size, 2, none⟩ (.slice none 0 0)).setCell ⟨w.heap.size, 3, none⟩ (.int .i64 0)).setCell ⟨w.heap.size, 4, none⟩ (.slice a4 5 5)).setCell ⟨w.heap.size, 5, none⟩ (.slice a5 5 5)) = v14 at *
          refine wpAnyH_done (by kernel_rfl) ?_ _
          have HO1 := hide hO1
          have HO4 := hide hO4
          have HO5 := hide hO5
          have HAA := hide (And.intro A14 (And.intro A15 A45))
          have HBB := hide HB
          clear hO1 hO4 hO5 A14 A15 A45 HB
          go_wp2_with fail
          exact bodyPost_ret (v := .agg #[.slice none 0 0, .slice a1 p.length k1, .slice none 0 0, .int .i64 0, .slice a4 5 5, .slice a5 5 5]) (by simp [results, Try.results21, go_sem, e0, e1, e2, e3, e4, e5]) rfl
            (newT (unhide HO1) (unhide HO4) (unhide HO5) (unhide HAA).1 (unhide HAA).2.1 (unhide HAA).2.2 (unhide HBB))
        exact AllReadyH.nil
      exact AllReadyH.nil
    exact AllReadyH.nil
  refine AllReadyH.cons (o := { dst := some 15, op := _, type := _, pos := _, after := _, guard := _ }) rfl (fun K hK => ?_) ?_
  · go_simp
    refine upon_run (mk5 _) ?_
    try go_wp2_with fail
    refine hK.out _ _ trivial (fun hHeld => ?_)
    clear hK K hHeld
    try simp only [Act.put, List.setIfInBounds_toArray, List.set_cons_zero, List.set_cons_succ]
    have ho := own5 V0
    have hb : Below V0.heap.size V0 (V0.alloc (.cells #[.int .i64 0, .int .i64 0, .int .i64 0, .int .i64 0, .int .i64 0] 3)) := below_a _
    have HX := HX.below hb
    have HR := HR.bel hb
    have HB := below_tr HB hb
    have hO5 := ho.mono hsz
    have hsz := Nat.le_trans hsz hb.size
    clear ho hb
    generalize (V0.alloc (.cells #[.int .i64 0, .int .i64 0, .int .i64 0, .int .i64 0, .int .i64 0] 3)) = v15 at *
    generalize (some (⟨V0.heap.size, 0, none⟩ : Addr)) = a5 at *
    refine wpAnyH_ready (rs := [1, 2]) (by kernel_rfl) (by simp) ?_
    refine AllReadyH.cons (o := { dst := some 13, op := _, type := _, pos := _, after := _, guard := _ }) rfl (fun K hK => ?_) ?_
    · go_simp
      go_at_call 106
      refine (c106 p ao _ cap _ rfl hm hz HR).mono ?_
      rintro e v16 ⟨v, rfl, ho, hb⟩
      obtain ⟨a1, k1, rfl, -, -, -⟩ := ho.row
      have A15 := (apt_new hO5 ho).symm
      have hO5 := hO5.bel hb
      have HX := HX.below hb
      have HR := HR.bel hb
      have HB := below_tr HB hb
      have hO1 := ho.mono hsz
      have hsz := Nat.le_trans hsz hb.size
      clear ho hb
      try go_wp2_with fail
      refine hK.out _ _ trivial (fun hHeld => ?_)
      clear hK K hHeld
      try simp only [Act.put, List.setIfInBounds_toArray, List.set_cons_zero, List.set_cons_succ]
      refine wpAnyH_ready (rs := [2]) (by kernel_rfl) (by simp) ?_
      refine AllReadyH.cons (o := { dst := some 14, op := _, type := _, pos := _, after := _, guard := _ }) rfl (fun K hK => ?_) ?_
      · go_simp
        refine upon_run (mk5 _) ?_
        try go_wp2_with fail
        refine hK.out _ _ trivial (fun hHeld => ?_)
        clear hK K hHeld
        try simp only [Act.put, List.setIfInBounds_toArray, List.set_cons_zero, List.set_cons_succ]
        have ho := own5 v16
        have hb : Below v16.heap.size v16 (v16.alloc (.cells #[.int .i64 0, .int .i64 0, .int .i64 0, .int .i64 0, .int .i64 0] 3)) := below_a _
        have A45 := (apt_new hO5 ho).symm
        have A14 := apt_new hO1 ho
        have hO5 := hO5.bel hb
        have hO1 := hO1.bel hb
        have HX := HX.below hb
        have HR := HR.bel hb
        have HB := below_tr HB hb
        have hO4 := ho.mono hsz
        have hsz := Nat.le_trans hsz hb.size
        clear ho hb
        generalize (v16.alloc (.cells #[.int .i64 0, .int .i64 0, .int .i64 0, .int .i64 0, .int .i64 0] 3)) = v17 at *
        generalize (some (⟨v16.heap.size, 0, none⟩ : Addr)) = a4 at *
        have hSn : (fun _ : World => True) v17 := trivial
        refine tk 4 (some 16) (v := ?_) ?_ ?_
        rotate_left
        · intro w hSw
          first | (go_simp; done) | (go_simp; with_reducible rfl)
        try simp only [Act.put, List.setIfInBounds_toArray, List.set_cons_zero, List.set_cons_succ]
        clear hSn
        refine wpAnyH_ready (rs := [5]) (by kernel_rfl) (by simp) ?_
        refine AllReadyH.cons (o := { dst := none, op := _, type := _, pos := _, after := _, guard := _ }) rfl (fun K hK => ?_) ?_
        · have q0 := HX.cell 0 rfl
          have p0 := HX.frozen 0 rfl
          have q1 := HX.cell 1 rfl
          have p1 := HX.frozen 1 rfl
          have q2 := HX.cell 2 rfl
          have p2 := HX.frozen 2 rfl
          have q3 := HX.cell 3 rfl
          have p3 := HX.frozen 3 rfl
          have q4 := HX.cell 4 rfl
          have p4 := HX.frozen 4 rfl
          have q5 := HX.cell 5 rfl
          have p5 := HX.frozen 5 rfl
          go_simp
          try go_wp2_with fail
          refine hK.out _ _ trivial (fun hHeld => ?_)
          clear hK K hHeld
          try simp only [Act.put, List.setIfInBounds_toArray, List.set_cons_zero, List.set_cons_succ]
          have hg := six_grown v17 w.heap.size (.slice none 0 0) (.slice a1 p.length k1) (.slice none 0 0) (.int .i64 0) (.slice a4 5 5) (.slice a5 5 5)
          have HY := box_put6 HX (.slice none 0 0) (.slice a1 p.length k1) (.slice none 0 0) (.int .i64 0) (.slice a4 5 5) (.slice a5 5 5)
          have hne : ∀ (v : Value) (zs : List Int), Own v17 V0.heap.size v zs → ∀ b, v.ownBlock = some b → some b ≠ some w.heap.size := fun v zs ho b hb e => by cases e; have := (ho.2.lt _ hb).1; omega
          have hO1 := (hO1.kpt hg (hne _ _ hO1)).mono (Nat.le_of_lt hV0)
          have hO4 := (hO4.kpt hg (hne _ _ hO4)).mono (Nat.le_of_lt hV0)
          have hO5 := (hO5.kpt hg (hne _ _ hO5)).mono (Nat.le_of_lt hV0)
          have HB := grown_below HB hg (fun k hk => by cases hk; exact Nat.le_refl _)
          have e0 := HY.cell 0 rfl
          have e1 := HY.cell 1 rfl
          have e2 := HY.cell 2 rfl
          have e3 := HY.cell 3 rfl
          have e4 := HY.cell 4 rfl
          have e5 := HY.cell 5 rfl
          clear hg HY HX hne HR q0 p0 q1 p1 q2 p2 q3 p3 q4 p4 q5 p5
          generalize ((((((v17.setCell ⟨w.heap.size, 0, none⟩ (.slice none 0 0)).setCell ⟨w.heap.size, 1, none⟩ (.slice a1 p.length k1)).setCell ⟨w.heap.size, 2, none⟩ (.slice none 0 0)).setCell ⟨w.heap.size, 3, none⟩ (.int .i64 0)).setCell ⟨w.heap.size, 4, none⟩ (.slice a4 5 5)).setCell ⟨w.heap.size, 5, none⟩ (.slice a5 5 5)) = v18 at *
          refine wpAnyH_done (by kernel_rfl) ?_ _
          have HO1 := hide hO1
          have HO4 := hide hO4
          have HO5 := hide hO5
          have HAA := hide (And.intro A14 (And.intro A15 A45))
          have HBB := hide HB
          clear hO1 hO4 hO5 A14 A15 A45 HB
          go_wp2_with fail
          exact bodyPost_ret (v := .agg #[.slice none 0 0, .slice a1 p.length k1, .slice none 0 0, .int .i64 0, .slice a4 5 5, .slice a5 5 5]) (by simp [results, Try.results21, go_sem, e0, e1, e2, e3, e4, e5]) rfl
            (newT (unhide HO1) (unhide HO4) (unhide HO5) (unhide HAA).1 (unhide HAA).2.1 (unhide HAA).2.2 (unhide HBB))
        exact AllReadyH.nil
      exact AllReadyH.nil
    refine AllReadyH.cons (o := { dst := some 14, op := _, type := _, pos := _, after := _, guard := _ }) rfl (fun K hK => ?_) ?_
    · go_simp
      refine upon_run (mk5 _) ?_
      try go_wp2_with fail
      refine hK.out _ _ trivial (fun hHeld => ?_)
      clear hK K hHeld
      try simp only [Act.put, List.setIfInBounds_toArray, List.set_cons_zero, List.set_cons_succ]
      have ho := own5 v15
      have hb : Below v15.heap.size v15 (v15.alloc (.cells #[.int .i64 0, .int .i64 0, .int .i64 0, .int .i64 0, .int .i64 0] 3)) := below_a _
      have A45 := (apt_new hO5 ho).symm
      have hO5 := hO5.bel hb
      have HX := HX.below hb
      have HR := HR.bel hb
      have HB := below_tr HB hb
      have hO4 := ho.mono hsz
      have hsz := Nat.le_trans hsz hb.size
      clear ho hb
      generalize (v15.alloc (.cells #[.int .i64 0, .int .i64 0, .int .i64 0, .int .i64 0, .int .i64 0] 3)) = v19 at *
      generalize (some (⟨v15.heap.size, 0, none⟩ : Addr)) = a4 at *
      refine wpAnyH_ready (rs := [1]) (by kernel_rfl) (by simp) ?_
      refine AllReadyH.cons (o := { dst := some 13, op := _, type := _, pos := _, after := _, guard := _ }) rfl (fun K hK => ?_) ?_
      · go_simp
        go_at_call 106
        refine (c106 p ao _ cap _ rfl hm hz HR).mono ?_
        rintro e v20 ⟨v, rfl, ho, hb⟩
        obtain ⟨a1, k1, rfl, -, -, -⟩ := ho.row
        have A15 := (apt_new hO5 ho).symm
        have A14 := (apt_new hO4 ho).symm
        have hO5 := hO5.bel hb
        have hO4 := hO4.bel hb
        have HX := HX.below hb
        have HR := HR.bel hb
        have HB := below_tr HB hb
        have hO1 := ho.mono hsz
        have hsz := Nat.le_trans hsz hb.size
        clear ho hb
        try go_wp2_with fail
        refine hK.out _ _ trivial (fun hHeld => ?_)
        clear hK K hHeld
        try simp only [Act.put, List.setIfInBounds_toArray, List.set_cons_zero, List.set_cons_succ]
        have hSn : (fun _ : World => True) v20 := trivial
        refine tk 4 (some 16) (v := ?_) ?_ ?_
        rotate_left
        · intro w hSw
          first | (go_simp; done) | (go_simp; with_reducible rfl)
        try simp only [Act.put, List.setIfInBounds_toArray, List.set_cons_zero, List.set_cons_succ]
        clear hSn
        refine wpAnyH_ready (rs := [5]) (by kernel_rfl) (by simp) ?_
        refine AllReadyH.cons (o := { dst := none, op := _, type := _, pos := _, after := _, guard := _ }) rfl (fun K hK => ?_) ?_
        · have q0 := HX.cell 0 rfl
          have p0 := HX.frozen 0 rfl
          have q1 := HX.cell 1 rfl
          have p1 := HX.frozen 1 rfl
          have q2 := HX.cell 2 rfl
          have p2 := HX.frozen 2 rfl
          have q3 := HX.cell 3 rfl
          have p3 := HX.frozen 3 rfl
          have q4 := HX.cell 4 rfl
          have p4 := HX.frozen 4 rfl
          have q5 := HX.cell 5 rfl
          have p5 := HX.frozen 5 rfl
          go_simp
          try go_wp2_with fail
          refine hK.out _ _ trivial (fun hHeld => ?_)
          clear hK K hHeld
          try simp only [Act.put, List.setIfInBounds_toArray, List.set_cons_zero, List.set_cons_succ]
          have hg := six_grown v20 w.heap.size (.slice none 0 0) (.slice a1 p.length k1) (.slice none 0 0) (.int .i64 0) (.slice a4 5 5) (.slice a5 5 5)
          have HY := box_put6 HX (.slice none 0 0) (.slice a1 p.length k1) (.slice none 0 0) (.int .i64 0) (.slice a4 5 5) (.slice a5 5 5)
          have hne : ∀ (v : Value) (zs : List Int), Own v20 V0.heap.size v zs → ∀ b, v.ownBlock = some b → some b ≠ some w.heap.size := fun v zs ho b hb e => by cases e; have := (ho.2.lt _ hb).1; omega
          have hO1 := (hO1.kpt hg (hne _ _ hO1)).mono (Nat.le_of_lt hV0)
          have hO4 := (hO4.kpt hg (hne _ _ hO4)).mono (Nat.le_of_lt hV0)
          have hO5 := (hO5.kpt hg (hne _ _ hO5)).mono (Nat.le_of_lt hV0)
          have HB := grown_below HB hg (fun k hk => by cases hk; exact Nat.le_refl _)
          have e0 := HY.cell 0 rfl
          have e1 := HY.cell 1 rfl
          have e2 := HY.cell 2 rfl
          have e3 := HY.cell 3 rfl
          have e4 := HY.cell 4 rfl
          have e5 := HY.cell 5 rfl
          clear hg HY HX hne HR q0 p0 q1 p1 q2 p2 q3 p3 q4 p4 q5 p5
          generalize ((((((v20.setCell ⟨w.heap.size, 0, none⟩ (.slice none 0 0)).setCell ⟨w.heap.size, 1, none⟩ (.slice a1 p.length k1)).setCell ⟨w.heap.size, 2, none⟩ (.slice none 0 0)).setCell ⟨w.heap.size, 3, none⟩ (.int .i64 0)).setCell ⟨w.heap.size, 4, none⟩ (.slice a4 5 5)).setCell ⟨w.heap.size, 5, none⟩ (.slice a5 5 5)) = v21 at *
          refine wpAnyH_done (by kernel_rfl) ?_ _
          have HO1 := hide hO1
          have HO4 := hide hO4
          have HO5 := hide hO5
          have HAA := hide (And.intro A14 (And.intro A15 A45))
          have HBB := hide HB
          clear hO1 hO4 hO5 A14 A15 A45 HB
          go_wp2_with fail
          exact bodyPost_ret (v := .agg #[.slice none 0 0, .slice a1 p.length k1, .slice none 0 0, .int .i64 0, .slice a4 5 5, .slice a5 5 5]) (by simp [results, Try.results21, go_sem, e0, e1, e2, e3, e4, e5]) rfl
            (newT (unhide HO1) (unhide HO4) (unhide HO5) (unhide HAA).1 (unhide HAA).2.1 (unhide HAA).2.2 (unhide HBB))
        exact AllReadyH.nil
      exact AllReadyH.nil
    exact AllReadyH.nil
  exact AllReadyH.nil
end Go.Proofs.Ytmlbphmbffkdnaa
