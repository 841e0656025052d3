/-
  The draws of chapter 6: purses, somebody, how much.
-/
import Derived.Test.YtjdnengmllamcaaDrp
import Derived.Deep.RegionHeld3
namespace Go.Proofs.Ytjdnengmllamcaa
open Go.RowKit
set_option linter.unusedVariables false
set_option maxRecDepth 100000

theorem results_tmp4x {fn : Func} {t u v x : Tmp} (h : fn.results = #[.tmp t, .tmp u, .tmp v, .tmp x]) (tmps : Array Value) (P : Program) (w : World) :
    (results fn tmps).run P w = .ok (.tuple #[tmps.getD t undef, tmps.getD u undef, tmps.getD v undef, tmps.getD x undef]) w := by
  simp [results, h]
/-- numbers that are written out, in memory -/
def Lits (w : World) (g : Nat) (l : List Int) : Prop := ∀ (j : Nat) (v : Value), ((l.map (Value.int .i64)).toArray)[j]? = some v → w.cell? ⟨g, j, none⟩ = some v
theorem Lits.kept {w w' : World} {g r : Nat} {l : List Int} (h : Lits w g l) (hg : w.grownBy w' (some r)) (hne : r < g) : Lits w' g l := fun j v hv =>
  hg.cell (a := ⟨g, j, none⟩) (h j v hv) (fun e => by simp only [Option.some.injEq] at e; omega)
theorem lits_new (w : World) (l : List Int) : Lits (w.alloc (.cells (l.map (Value.int .i64)).toArray 3)) w.heap.size l := fun j v hv => by rw [World.cell?_alloc_new]; exact hv
theorem grown_drew (w : World) (row : Option Nat) : w.grownBy w.drew row := below_grown0 (below_drew w) row
theorem Row.keptR {w w' : World} {r : Nat} {ao : Option Addr} {zs : List Int} (h : Row w ao zs) (hg : w.grownBy w' (some r)) (hb : ∀ a, ao = some a → r < a.block) : Row w' ao zs :=
  h.kept hg (fun a ha e => by have := hb a ha; simp only [Option.some.injEq] at e; omega)
/-- purses and what is drawn with them -/
def DrawnP (w : World) (e : Ending) (w' : World) (mk : Value → Value) : Prop :=
  ∃ (ao : Option Addr) (n cap : Nat) (zs : List Int), e = .returned (mk (.slice ao n cap)) ∧ zs.length = n ∧ n ≤ 6 ∧ n ≤ cap ∧ (ao = none → cap = 0) ∧ Row w' ao zs ∧ Below w.heap.size w w'

set_option maxHeartbeats 1000000 in
theorem c85 (bs : List Int) (ao : Option Addr) (n cap : Nat) (w : World) (hn : bs.length = n) (hc : n ≤ cap) (hm : cap ≤ maxLen) (hB : Bytes w ao bs) :
    Calls Try.prog 85 #[.slice ao n cap] w fun e w' => ∃ u : Int, 0 ≤ u ∧ u < 7 ∧ DrawnP w e w' (fun v => .tuple #[v, .int .i64 u]) := by
  have HB := hide hB
  clear hB
  go_enter Try.func85, Try.ntmps85
  go_wp2_with fail
  refine (c105 bs ao n cap _ hn hc hm (unhide HB)).mono ?_
  rintro e w1 ⟨rfl, hr, hb, hl⟩
  have HR := hide hr
  have HBe := hide hb
  clear hr hb
  go_wp2_with fail
  refine (c138 _ 0 9 _ (by omega) (by omega) (unhide HR)).mono ?_
  rintro e w2 ⟨ao2, n2, cap2, zs, rfl, hln, hn6, hnc, hz, hrow, hblk, hr, hg⟩
  have HRo := hide hrow
  have HR2 := hide hr
  have HB2 := hide (below_of_grown (unhide HBe) hg)
  have HBL := hide hblk
  have HZ := hide hz
  have HLN := hide hln
  clear hr hg hrow hblk hz hln
  go_wp2_with fail
  refine (c111 _ (0 + 10) 7 _ (by omega) (unhide HR2)).mono ?_
  rintro e w3 ⟨u, rfl, hu0, hu1, hr, hg⟩
  have HB3 := hide (below_of_grown (unhide HB2) hg)
  have HRo3 := hide ((unhide HRo).keptR hg (fun a ha => by have := unhide HBL a ha; omega))
  have HU := hide (hu1 (by omega))
  clear hr hg hu1
  go_wp2_with fail
  go_ret2
  exact ⟨u, hu0, unhide HU, ao2, n2, cap2, zs, rfl, HLN.out, hn6, hnc, unhide HZ, unhide HRo3, unhide HB3⟩

set_option maxHeartbeats 1000000 in
theorem c86 (bs : List Int) (ao : Option Addr) (n cap : Nat) (w : World) (hn : bs.length = n) (hc : n ≤ cap) (hm : cap ≤ maxLen) (hB : Bytes w ao bs) :
    Calls Try.prog 86 #[.slice ao n cap] w fun e w' => DrawnP w e w' (fun v => v) := by
  have HB := hide hB
  clear hB
  go_enter Try.func86, Try.ntmps86
  go_wp2_with fail
  refine (c105 bs ao n cap _ hn hc hm (unhide HB)).mono ?_
  rintro e w1 ⟨rfl, hr, hb, hl⟩
  have HR := hide hr
  have HBe := hide hb
  clear hr hb
  go_wp2_with fail
  refine (c138 _ 0 6 _ (by omega) (by omega) (unhide HR)).mono ?_
  rintro e w2 ⟨ao2, n2, cap2, zs, rfl, hln, hn6, hnc, hz, hrow, hblk, hr, hg⟩
  have HRo := hide hrow
  have HB2 := hide (below_of_grown (unhide HBe) hg)
  have HZ := hide hz
  have HLN := hide hln
  clear hr hg hrow hblk hz hln
  go_wp2_with fail
  go_ret
  exact ⟨ao2, n2, cap2, zs, rfl, HLN.out, hn6, hnc, unhide HZ, unhide HRo, unhide HB2⟩

set_option maxHeartbeats 4000000 in
theorem c81 (bs : List Int) (ao : Option Addr) (n cap : Nat) (w : World) (hn : bs.length = n) (hc : n ≤ cap) (hm : cap ≤ maxLen) (hB : Bytes w ao bs) :
    Calls Try.prog 81 #[.slice ao n cap] w fun e w' => ∃ u d : Int, (-9223372036854775808 ≤ d ∧ d ≤ 9223372036854775807) ∧ DrawnP w e w' (fun v => .tuple #[v, .int .i64 u, .int .i64 d]) := by
  have HB := hide hB
  clear hB
  go_enter Try.func81, Try.ntmps81
  go_wp2_with fail
  refine (c105 bs ao n cap _ hn hc hm (unhide HB)).mono ?_
  rintro e w1 ⟨rfl, hr1, hb1, hl1⟩
  clear hn hc hm HB
  go_wp2_with fail
  refine wp_region_held_drew (S := fun _ => True) (by kernel_rfl) trivial (fun hHeld => ?_)
  refine wpAnyH_take (i := 0) (oi := { dst := some 8, op := _, type := _, pos := _, after := _, guard := _ }) (v := ?_) rfl (by kernel_rfl) (by kernel_rfl) (by kernel_rfl) (fun _ _ _ h => h) (Or.inl ⟨by rfl, ?_⟩) (by assumption) ?_
  rotate_left
  · intro w hSw
    first | (go_simp; done) | (go_simp; with_reducible rfl)
  try simp only [Act.put, List.setIfInBounds_toArray, List.set_cons_zero, List.set_cons_succ]
  refine wpAnyH_take (i := 2) (oi := { dst := some 10, op := _, type := _, pos := _, after := _, guard := _ }) (v := ?_) rfl (by kernel_rfl) (by kernel_rfl) (by kernel_rfl) (fun _ _ _ h => h) (Or.inl ⟨by rfl, ?_⟩) (by assumption) ?_
  rotate_left
  · intro w hSw
    first | (go_simp; done) | (go_simp; with_reducible rfl)
  try simp only [Act.put, List.setIfInBounds_toArray, List.set_cons_zero, List.set_cons_succ]
  refine wpAnyH_take (i := 5) (oi := { dst := some 13, op := _, type := _, pos := _, after := _, guard := _ }) (v := ?_) rfl (by kernel_rfl) (by kernel_rfl) (by kernel_rfl) (fun _ _ _ h => h) (Or.inl ⟨by rfl, ?_⟩) (by assumption) ?_
  rotate_left
  · intro w hSw
    first | (go_simp; done) | (go_simp; with_reducible rfl)
  try simp only [Act.put, List.setIfInBounds_toArray, List.set_cons_zero, List.set_cons_succ]
  have hS0 : (fun _ : World => True) w1.drew := trivial
  have HG := grown_drew w1 (some w.heap.size)
  have HR := hr1.kept (grown_drew w1 none) (fun b hb => by cases hb)
  generalize w1.drew = V0 at *
  refine wpAnyH_ready (rs := [1, 4]) (by kernel_rfl) (by simp) ?_
  refine AllReadyH.cons (o := { dst := some 9, op := _, type := _, pos := _, after := _, guard := _ }) rfl (fun K hK => ?_) ?_
  · go_simp
    go_at_call 138
    refine (c138 _ 0 12 _ (by omega) (by omega) HR).mono ?_
    rintro e v1 ⟨ao2, n2, cap2, zs, rfl, hln, hn6, hnc, hz, hrow, hblk0, hr, hg⟩
    have hblk : ∀ a, ao2 = some a → w.heap.size < a.block := fun a ha => by have := hblk0 a ha; have := HG.size; omega
    clear hblk0
    have HR := hr
    have HG := grown_trans HG hg
    clear hr hg
    try go_wp2_with fail
    refine hK.out _ _ trivial (fun hHeld => ?_)
    clear hK K hHeld
    try simp only [Act.put, List.setIfInBounds_toArray, List.set_cons_zero, List.set_cons_succ]
    refine wpAnyH_ready (rs := [3, 4]) (by kernel_rfl) (by simp) ?_
    refine AllReadyH.cons (o := { dst := some 11, op := _, type := _, pos := _, after := _, guard := _ }) rfl (fun K hK => ?_) ?_
    · go_simp
      go_at_call 111
      refine (c111 _ (0 + 10) 7 _ (by omega) HR).mono ?_
      rintro e v2 ⟨x1, rfl, x1a, x1b, hr, hg⟩
      have x1b := x1b (by omega)
      have hrow := hrow.keptR hg hblk
      have HR := hr
      have HG := grown_trans HG hg
      clear hr hg
      try go_wp2_with fail
      refine hK.out _ _ trivial (fun hHeld => ?_)
      clear hK K hHeld
      try simp only [Act.put, List.setIfInBounds_toArray, List.set_cons_zero, List.set_cons_succ]
      refine wpAnyH_ready (rs := [4, 6]) (by kernel_rfl) (by simp) ?_
      refine AllReadyH.cons (o := { dst := some 12, op := _, type := _, pos := _, after := _, guard := _ }) rfl (fun K hK => ?_) ?_
      · go_simp
        refine hK.out _ _ trivial (fun hHeld => ?_)
        clear hK K hHeld
        try simp only [Act.put, List.setIfInBounds_toArray, List.set_cons_zero, List.set_cons_succ]
        have HL : Lits (v2.alloc (.cells #[.int .i64 (0), .int .i64 (10), .int .i64 (-10), .int .i64 (100), .int .i64 (-100), .int .i64 (100000), .int .i64 (-100000), .int .i64 (-9223372036854775808), .int .i64 (9223372036854775807)] 3)) v2.heap.size [0, 10, -10, 100, -100, 100000, -100000, -9223372036854775808, 9223372036854775807] := lits_new v2 [0, 10, -10, 100, -100, 100000, -100000, -9223372036854775808, 9223372036854775807]
        have hgb : w.heap.size < v2.heap.size := Nat.lt_of_lt_of_le hl1 HG.size
        have hga := World.grownBy_alloc v2 (.cells #[.int .i64 (0), .int .i64 (10), .int .i64 (-10), .int .i64 (100), .int .i64 (-100), .int .i64 (100000), .int .i64 (-100000), .int .i64 (-9223372036854775808), .int .i64 (9223372036854775807)] 3) (some w.heap.size)
        have HR := HR.alloc (.cells #[.int .i64 (0), .int .i64 (10), .int .i64 (-10), .int .i64 (100), .int .i64 (-100), .int .i64 (100000), .int .i64 (-100000), .int .i64 (-9223372036854775808), .int .i64 (9223372036854775807)] 3)
        have HG := grown_trans HG hga
        have hrow := hrow.keptR hga hblk
        clear hga
        generalize v2.alloc (.cells #[.int .i64 (0), .int .i64 (10), .int .i64 (-10), .int .i64 (100), .int .i64 (-100), .int .i64 (100000), .int .i64 (-100000), .int .i64 (-9223372036854775808), .int .i64 (9223372036854775807)] 3) = v3 at *
        generalize v2.heap.size = gb at *
        refine wpAnyH_ready (rs := [6]) (by kernel_rfl) (by simp) ?_
        refine AllReadyH.cons (o := { dst := some 14, op := _, type := _, pos := _, after := _, guard := _ }) rfl (fun K hK => ?_) ?_
        · go_simp
          go_at_call 111
          refine (c111 _ (0 + 10 + 1) 9 _ (by omega) HR).mono ?_
          rintro e v4 ⟨x2, rfl, x2a, x2b, hr, hg⟩
          have x2b := x2b (by omega)
          have hrow := hrow.keptR hg hblk
          have HR := hr
          have HG := grown_trans HG hg
          have HL := HL.kept hg hgb
          clear hr hg
          try go_wp2_with fail
          refine hK.out _ _ trivial (fun hHeld => ?_)
          clear hK K hHeld
          try simp only [Act.put, List.setIfInBounds_toArray, List.set_cons_zero, List.set_cons_succ]
          have hSn : (fun _ : World => True) v4 := trivial
          refine wpAnyH_take (i := 9) (oi := { dst := some 2, op := _, type := _, pos := _, after := _, guard := _ }) (v := ?_) rfl (by kernel_rfl) (by kernel_rfl) (by kernel_rfl) (fun _ _ _ h => h) (Or.inl ⟨by rfl, ?_⟩) (by assumption) ?_
          rotate_left
          · intro w hSw
            first | (go_simp; done) | (go_simp; with_reducible rfl)
          try simp only [Act.put, List.setIfInBounds_toArray, List.set_cons_zero, List.set_cons_succ]
          refine wpAnyH_take (i := 10) (oi := { dst := some 3, op := _, type := _, pos := _, after := _, guard := _ }) (v := ?_) rfl (by kernel_rfl) (by kernel_rfl) (by kernel_rfl) (fun _ _ _ h => h) (Or.inl ⟨by rfl, ?_⟩) (by assumption) ?_
          rotate_left
          · intro w hSw
            first | (go_simp; done) | (go_simp; with_reducible rfl)
          try simp only [Act.put, List.setIfInBounds_toArray, List.set_cons_zero, List.set_cons_succ]
          obtain ⟨jN, y, rfl, hjN, hy, hcy⟩ := lit_val (l := [0, 10, -10, 100, -100, 100000, -100000, -9223372036854775808, 9223372036854775807]) HL x2a (by simpa using x2b)
          have hj9 : jN < 9 := by simpa using hjN
          have hjI : (jN : Int) < 9 := by omega
          have hjP : (0 : Int) ≤ (jN : Int) := by omega
          have hSn : (fun _ : World => True) v4 := trivial
          refine wpAnyH_take (i := 7) (oi := { dst := some 15, op := _, type := _, pos := _, after := _, guard := _ }) (v := ?_) rfl (by kernel_rfl) (by kernel_rfl) (by kernel_rfl) (fun _ _ _ h => h) (Or.inl ⟨by rfl, ?_⟩) (by assumption) ?_
          rotate_left
          · intro w hSw
            first | (go_simp; done) | (go_simp; with_reducible rfl)
          try simp only [Act.put, List.setIfInBounds_toArray, List.set_cons_zero, List.set_cons_succ]
          refine wpAnyH_ready (rs := [8]) (by kernel_rfl) (by simp) ?_
          refine AllReadyH.cons (o := { dst := some 16, op := _, type := _, pos := _, after := _, guard := _ }) rfl (fun K hK => ?_) AllReadyH.nil
          go_simp
          try go_wp2_with fail
          refine hK.out _ _ trivial (fun hHeld => ?_)
          clear hK K hHeld
          try simp only [Act.put, List.setIfInBounds_toArray, List.set_cons_zero, List.set_cons_succ]
          have hSn : (fun _ : World => True) v4 := trivial
          refine wpAnyH_take (i := 11) (oi := { dst := some 4, op := _, type := _, pos := _, after := _, guard := _ }) (v := ?_) rfl (by kernel_rfl) (by kernel_rfl) (by kernel_rfl) (fun _ _ _ h => h) (Or.inl ⟨by rfl, ?_⟩) (by assumption) ?_
          rotate_left
          · intro w hSw
            first | (go_simp; done) | (go_simp; with_reducible rfl)
          try simp only [Act.put, List.setIfInBounds_toArray, List.set_cons_zero, List.set_cons_succ]
          have hyf : -9223372036854775808 ≤ y ∧ y ≤ 9223372036854775807 := by simp at hy; omega
          have HYF := hide hyf
          have HBB := hide (below_of_grown hb1 HG)
          have HRW := hide hrow
          have HZ := hide hz
          have HLN := hide hln
          refine wpAnyH_done (by kernel_rfl) ?_ _
          clear HR HG HL hrow hz hln hcy hy hyf hblk hr1 hb1
          go_wp2_with fail
          go_ret3
          exact ⟨x1, y, unhide HYF, ao2, n2, cap2, zs, rfl, HLN.out, hn6, hnc, unhide HZ, unhide HRW, unhide HBB⟩
        exact AllReadyH.nil
      refine AllReadyH.cons (o := { dst := some 14, op := _, type := _, pos := _, after := _, guard := _ }) rfl (fun K hK => ?_) ?_
      · go_simp
        go_at_call 111
        refine (c111 _ (0 + 10 + 1) 9 _ (by omega) HR).mono ?_
        rintro e v5 ⟨x2, rfl, x2a, x2b, hr, hg⟩
        have x2b := x2b (by omega)
        have hrow := hrow.keptR hg hblk
        have HR := hr
        have HG := grown_trans HG hg
        clear hr hg
        try go_wp2_with fail
        refine hK.out _ _ trivial (fun hHeld => ?_)
        clear hK K hHeld
        try simp only [Act.put, List.setIfInBounds_toArray, List.set_cons_zero, List.set_cons_succ]
        have hSn : (fun _ : World => True) v5 := trivial
        refine wpAnyH_take (i := 9) (oi := { dst := some 2, op := _, type := _, pos := _, after := _, guard := _ }) (v := ?_) rfl (by kernel_rfl) (by kernel_rfl) (by kernel_rfl) (fun _ _ _ h => h) (Or.inl ⟨by rfl, ?_⟩) (by assumption) ?_
        rotate_left
        · intro w hSw
          first | (go_simp; done) | (go_simp; with_reducible rfl)
        try simp only [Act.put, List.setIfInBounds_toArray, List.set_cons_zero, List.set_cons_succ]
        refine wpAnyH_take (i := 10) (oi := { dst := some 3, op := _, type := _, pos := _, after := _, guard := _ }) (v := ?_) rfl (by kernel_rfl) (by kernel_rfl) (by kernel_rfl) (fun _ _ _ h => h) (Or.inl ⟨by rfl, ?_⟩) (by assumption) ?_
        rotate_left
        · intro w hSw
          first | (go_simp; done) | (go_simp; with_reducible rfl)
        try simp only [Act.put, List.setIfInBounds_toArray, List.set_cons_zero, List.set_cons_succ]
        refine wpAnyH_ready (rs := [4]) (by kernel_rfl) (by simp) ?_
        refine AllReadyH.cons (o := { dst := some 12, op := _, type := _, pos := _, after := _, guard := _ }) rfl (fun K hK => ?_) ?_
        · go_simp
          refine hK.out _ _ trivial (fun hHeld => ?_)
          clear hK K hHeld
          try simp only [Act.put, List.setIfInBounds_toArray, List.set_cons_zero, List.set_cons_succ]
          have HL : Lits (v5.alloc (.cells #[.int .i64 (0), .int .i64 (10), .int .i64 (-10), .int .i64 (100), .int .i64 (-100), .int .i64 (100000), .int .i64 (-100000), .int .i64 (-9223372036854775808), .int .i64 (9223372036854775807)] 3)) v5.heap.size [0, 10, -10, 100, -100, 100000, -100000, -9223372036854775808, 9223372036854775807] := lits_new v5 [0, 10, -10, 100, -100, 100000, -100000, -9223372036854775808, 9223372036854775807]
          have hgb : w.heap.size < v5.heap.size := Nat.lt_of_lt_of_le hl1 HG.size
          have hga := World.grownBy_alloc v5 (.cells #[.int .i64 (0), .int .i64 (10), .int .i64 (-10), .int .i64 (100), .int .i64 (-100), .int .i64 (100000), .int .i64 (-100000), .int .i64 (-9223372036854775808), .int .i64 (9223372036854775807)] 3) (some w.heap.size)
          have HR := HR.alloc (.cells #[.int .i64 (0), .int .i64 (10), .int .i64 (-10), .int .i64 (100), .int .i64 (-100), .int .i64 (100000), .int .i64 (-100000), .int .i64 (-9223372036854775808), .int .i64 (9223372036854775807)] 3)
          have HG := grown_trans HG hga
          have hrow := hrow.keptR hga hblk
          clear hga
          generalize v5.alloc (.cells #[.int .i64 (0), .int .i64 (10), .int .i64 (-10), .int .i64 (100), .int .i64 (-100), .int .i64 (100000), .int .i64 (-100000), .int .i64 (-9223372036854775808), .int .i64 (9223372036854775807)] 3) = v6 at *
          generalize v5.heap.size = gb at *
          obtain ⟨jN, y, rfl, hjN, hy, hcy⟩ := lit_val (l := [0, 10, -10, 100, -100, 100000, -100000, -9223372036854775808, 9223372036854775807]) HL x2a (by simpa using x2b)
          have hj9 : jN < 9 := by simpa using hjN
          have hjI : (jN : Int) < 9 := by omega
          have hjP : (0 : Int) ≤ (jN : Int) := by omega
          have hSn : (fun _ : World => True) v6 := trivial
          refine wpAnyH_take (i := 7) (oi := { dst := some 15, op := _, type := _, pos := _, after := _, guard := _ }) (v := ?_) rfl (by kernel_rfl) (by kernel_rfl) (by kernel_rfl) (fun _ _ _ h => h) (Or.inl ⟨by rfl, ?_⟩) (by assumption) ?_
          rotate_left
          · intro w hSw
            first | (go_simp; done) | (go_simp; with_reducible rfl)
          try simp only [Act.put, List.setIfInBounds_toArray, List.set_cons_zero, List.set_cons_succ]
          refine wpAnyH_ready (rs := [8]) (by kernel_rfl) (by simp) ?_
          refine AllReadyH.cons (o := { dst := some 16, op := _, type := _, pos := _, after := _, guard := _ }) rfl (fun K hK => ?_) AllReadyH.nil
          go_simp
          try go_wp2_with fail
          refine hK.out _ _ trivial (fun hHeld => ?_)
          clear hK K hHeld
          try simp only [Act.put, List.setIfInBounds_toArray, List.set_cons_zero, List.set_cons_succ]
          have hSn : (fun _ : World => True) v6 := trivial
          refine wpAnyH_take (i := 11) (oi := { dst := some 4, op := _, type := _, pos := _, after := _, guard := _ }) (v := ?_) rfl (by kernel_rfl) (by kernel_rfl) (by kernel_rfl) (fun _ _ _ h => h) (Or.inl ⟨by rfl, ?_⟩) (by assumption) ?_
          rotate_left
          · intro w hSw
            first | (go_simp; done) | (go_simp; with_reducible rfl)
          try simp only [Act.put, List.setIfInBounds_toArray, List.set_cons_zero, List.set_cons_succ]
          have hyf : -9223372036854775808 ≤ y ∧ y ≤ 9223372036854775807 := by simp at hy; omega
          have HYF := hide hyf
          have HBB := hide (below_of_grown hb1 HG)
          have HRW := hide hrow
          have HZ := hide hz
          have HLN := hide hln
          refine wpAnyH_done (by kernel_rfl) ?_ _
          clear HR HG HL hrow hz hln hcy hy hyf hblk hr1 hb1
          go_wp2_with fail
          go_ret3
          exact ⟨x1, y, unhide HYF, ao2, n2, cap2, zs, rfl, HLN.out, hn6, hnc, unhide HZ, unhide HRW, unhide HBB⟩
        exact AllReadyH.nil
      exact AllReadyH.nil
    refine AllReadyH.cons (o := { dst := some 12, op := _, type := _, pos := _, after := _, guard := _ }) rfl (fun K hK => ?_) ?_
    · go_simp
      refine hK.out _ _ trivial (fun hHeld => ?_)
      clear hK K hHeld
      try simp only [Act.put, List.setIfInBounds_toArray, List.set_cons_zero, List.set_cons_succ]
      have HL : Lits (v1.alloc (.cells #[.int .i64 (0), .int .i64 (10), .int .i64 (-10), .int .i64 (100), .int .i64 (-100), .int .i64 (100000), .int .i64 (-100000), .int .i64 (-9223372036854775808), .int .i64 (9223372036854775807)] 3)) v1.heap.size [0, 10, -10, 100, -100, 100000, -100000, -9223372036854775808, 9223372036854775807] := lits_new v1 [0, 10, -10, 100, -100, 100000, -100000, -9223372036854775808, 9223372036854775807]
      have hgb : w.heap.size < v1.heap.size := Nat.lt_of_lt_of_le hl1 HG.size
      have hga := World.grownBy_alloc v1 (.cells #[.int .i64 (0), .int .i64 (10), .int .i64 (-10), .int .i64 (100), .int .i64 (-100), .int .i64 (100000), .int .i64 (-100000), .int .i64 (-9223372036854775808), .int .i64 (9223372036854775807)] 3) (some w.heap.size)
      have HR := HR.alloc (.cells #[.int .i64 (0), .int .i64 (10), .int .i64 (-10), .int .i64 (100), .int .i64 (-100), .int .i64 (100000), .int .i64 (-100000), .int .i64 (-9223372036854775808), .int .i64 (9223372036854775807)] 3)
      have HG := grown_trans HG hga
      have hrow := hrow.keptR hga hblk
      clear hga
      generalize v1.alloc (.cells #[.int .i64 (0), .int .i64 (10), .int .i64 (-10), .int .i64 (100), .int .i64 (-100), .int .i64 (100000), .int .i64 (-100000), .int .i64 (-9223372036854775808), .int .i64 (9223372036854775807)] 3) = v7 at *
      generalize v1.heap.size = gb at *
      refine wpAnyH_ready (rs := [3]) (by kernel_rfl) (by simp) ?_
      refine AllReadyH.cons (o := { dst := some 11, op := _, type := _, pos := _, after := _, guard := _ }) rfl (fun K hK => ?_) ?_
      · go_simp
        go_at_call 111
        refine (c111 _ (0 + 10) 7 _ (by omega) HR).mono ?_
        rintro e v8 ⟨x1, rfl, x1a, x1b, hr, hg⟩
        have x1b := x1b (by omega)
        have hrow := hrow.keptR hg hblk
        have HR := hr
        have HG := grown_trans HG hg
        have HL := HL.kept hg hgb
        clear hr hg
        try go_wp2_with fail
        refine hK.out _ _ trivial (fun hHeld => ?_)
        clear hK K hHeld
        try simp only [Act.put, List.setIfInBounds_toArray, List.set_cons_zero, List.set_cons_succ]
        refine wpAnyH_ready (rs := [6]) (by kernel_rfl) (by simp) ?_
        refine AllReadyH.cons (o := { dst := some 14, op := _, type := _, pos := _, after := _, guard := _ }) rfl (fun K hK => ?_) ?_
        · go_simp
          go_at_call 111
          refine (c111 _ (0 + 10 + 1) 9 _ (by omega) HR).mono ?_
          rintro e v9 ⟨x2, rfl, x2a, x2b, hr, hg⟩
          have x2b := x2b (by omega)
          have hrow := hrow.keptR hg hblk
          have HR := hr
          have HG := grown_trans HG hg
          have HL := HL.kept hg hgb
          clear hr hg
          try go_wp2_with fail
          refine hK.out _ _ trivial (fun hHeld => ?_)
          clear hK K hHeld
          try simp only [Act.put, List.setIfInBounds_toArray, List.set_cons_zero, List.set_cons_succ]
          have hSn : (fun _ : World => True) v9 := trivial
          refine wpAnyH_take (i := 9) (oi := { dst := some 2, op := _, type := _, pos := _, after := _, guard := _ }) (v := ?_) rfl (by kernel_rfl) (by kernel_rfl) (by kernel_rfl) (fun _ _ _ h => h) (Or.inl ⟨by rfl, ?_⟩) (by assumption) ?_
          rotate_left
          · intro w hSw
            first | (go_simp; done) | (go_simp; with_reducible rfl)
          try simp only [Act.put, List.setIfInBounds_toArray, List.set_cons_zero, List.set_cons_succ]
          refine wpAnyH_take (i := 10) (oi := { dst := some 3, op := _, type := _, pos := _, after := _, guard := _ }) (v := ?_) rfl (by kernel_rfl) (by kernel_rfl) (by kernel_rfl) (fun _ _ _ h => h) (Or.inl ⟨by rfl, ?_⟩) (by assumption) ?_
          rotate_left
          · intro w hSw
            first | (go_simp; done) | (go_simp; with_reducible rfl)
          try simp only [Act.put, List.setIfInBounds_toArray, List.set_cons_zero, List.set_cons_succ]
          obtain ⟨jN, y, rfl, hjN, hy, hcy⟩ := lit_val (l := [0, 10, -10, 100, -100, 100000, -100000, -9223372036854775808, 9223372036854775807]) HL x2a (by simpa using x2b)
          have hj9 : jN < 9 := by simpa using hjN
          have hjI : (jN : Int) < 9 := by omega
          have hjP : (0 : Int) ≤ (jN : Int) := by omega
          have hSn : (fun _ : World => True) v9 := trivial
          refine wpAnyH_take (i := 7) (oi := { dst := some 15, op := _, type := _, pos := _, after := _, guard := _ }) (v := ?_) rfl (by kernel_rfl) (by kernel_rfl) (by kernel_rfl) (fun _ _ _ h => h) (Or.inl ⟨by rfl, ?_⟩) (by assumption) ?_
          rotate_left
          · intro w hSw
            first | (go_simp; done) | (go_simp; with_reducible rfl)
          try simp only [Act.put, List.setIfInBounds_toArray, List.set_cons_zero, List.set_cons_succ]
          refine wpAnyH_ready (rs := [8]) (by kernel_rfl) (by simp) ?_
          refine AllReadyH.cons (o := { dst := some 16, op := _, type := _, pos := _, after := _, guard := _ }) rfl (fun K hK => ?_) AllReadyH.nil
          go_simp
          try go_wp2_with fail
          refine hK.out _ _ trivial (fun hHeld => ?_)
          clear hK K hHeld
          try simp only [Act.put, List.setIfInBounds_toArray, List.set_cons_zero, List.set_cons_succ]
          have hSn : (fun _ : World => True) v9 := trivial
          refine wpAnyH_take (i := 11) (oi := { dst := some 4, op := _, type := _, pos := _, after := _, guard := _ }) (v := ?_) rfl (by kernel_rfl) (by kernel_rfl) (by kernel_rfl) (fun _ _ _ h => h) (Or.inl ⟨by rfl, ?_⟩) (by assumption) ?_
          rotate_left
          · intro w hSw
            first | (go_simp; done) | (go_simp; with_reducible rfl)
          try simp only [Act.put, List.setIfInBounds_toArray, List.set_cons_zero, List.set_cons_succ]
          have hyf : -9223372036854775808 ≤ y ∧ y ≤ 9223372036854775807 := by simp at hy; omega
          have HYF := hide hyf
          have HBB := hide (below_of_grown hb1 HG)
          have HRW := hide hrow
          have HZ := hide hz
          have HLN := hide hln
          refine wpAnyH_done (by kernel_rfl) ?_ _
          clear HR HG HL hrow hz hln hcy hy hyf hblk hr1 hb1
          go_wp2_with fail
          go_ret3
          exact ⟨x1, y, unhide HYF, ao2, n2, cap2, zs, rfl, HLN.out, hn6, hnc, unhide HZ, unhide HRW, unhide HBB⟩
        exact AllReadyH.nil
      exact AllReadyH.nil
    exact AllReadyH.nil
  refine AllReadyH.cons (o := { dst := some 12, op := _, type := _, pos := _, after := _, guard := _ }) rfl (fun K hK => ?_) ?_
  · go_simp
    refine hK.out _ _ trivial (fun hHeld => ?_)
    clear hK K hHeld
    try simp only [Act.put, List.setIfInBounds_toArray, List.set_cons_zero, List.set_cons_succ]
    have HL : Lits (V0.alloc (.cells #[.int .i64 (0), .int .i64 (10), .int .i64 (-10), .int .i64 (100), .int .i64 (-100), .int .i64 (100000), .int .i64 (-100000), .int .i64 (-9223372036854775808), .int .i64 (9223372036854775807)] 3)) V0.heap.size [0, 10, -10, 100, -100, 100000, -100000, -9223372036854775808, 9223372036854775807] := lits_new V0 [0, 10, -10, 100, -100, 100000, -100000, -9223372036854775808, 9223372036854775807]
    have hgb : w.heap.size < V0.heap.size := Nat.lt_of_lt_of_le hl1 HG.size
    have hga := World.grownBy_alloc V0 (.cells #[.int .i64 (0), .int .i64 (10), .int .i64 (-10), .int .i64 (100), .int .i64 (-100), .int .i64 (100000), .int .i64 (-100000), .int .i64 (-9223372036854775808), .int .i64 (9223372036854775807)] 3) (some w.heap.size)
    have HR := HR.alloc (.cells #[.int .i64 (0), .int .i64 (10), .int .i64 (-10), .int .i64 (100), .int .i64 (-100), .int .i64 (100000), .int .i64 (-100000), .int .i64 (-9223372036854775808), .int .i64 (9223372036854775807)] 3)
    have HG := grown_trans HG hga
    clear hga
    generalize V0.alloc (.cells #[.int .i64 (0), .int .i64 (10), .int .i64 (-10), .int .i64 (100), .int .i64 (-100), .int .i64 (100000), .int .i64 (-100000), .int .i64 (-9223372036854775808), .int .i64 (9223372036854775807)] 3) = v10 at *
    generalize V0.heap.size = gb at *
    refine wpAnyH_ready (rs := [1]) (by kernel_rfl) (by simp) ?_
    refine AllReadyH.cons (o := { dst := some 9, op := _, type := _, pos := _, after := _, guard := _ }) rfl (fun K hK => ?_) ?_
    · go_simp
      go_at_call 138
      refine (c138 _ 0 12 _ (by omega) (by omega) HR).mono ?_
      rintro e v11 ⟨ao2, n2, cap2, zs, rfl, hln, hn6, hnc, hz, hrow, hblk0, hr, hg⟩
      have hblk : ∀ a, ao2 = some a → w.heap.size < a.block := fun a ha => by have := hblk0 a ha; have := HG.size; omega
      clear hblk0
      have HR := hr
      have HG := grown_trans HG hg
      have HL := HL.kept hg hgb
      clear hr hg
      try go_wp2_with fail
      refine hK.out _ _ trivial (fun hHeld => ?_)
      clear hK K hHeld
      try simp only [Act.put, List.setIfInBounds_toArray, List.set_cons_zero, List.set_cons_succ]
      refine wpAnyH_ready (rs := [3]) (by kernel_rfl) (by simp) ?_
      refine AllReadyH.cons (o := { dst := some 11, op := _, type := _, pos := _, after := _, guard := _ }) rfl (fun K hK => ?_) ?_
      · go_simp
        go_at_call 111
        refine (c111 _ (0 + 10) 7 _ (by omega) HR).mono ?_
        rintro e v12 ⟨x1, rfl, x1a, x1b, hr, hg⟩
        have x1b := x1b (by omega)
        have hrow := hrow.keptR hg hblk
        have HR := hr
        have HG := grown_trans HG hg
        have HL := HL.kept hg hgb
        clear hr hg
        try go_wp2_with fail
        refine hK.out _ _ trivial (fun hHeld => ?_)
        clear hK K hHeld
        try simp only [Act.put, List.setIfInBounds_toArray, List.set_cons_zero, List.set_cons_succ]
        refine wpAnyH_ready (rs := [6]) (by kernel_rfl) (by simp) ?_
        refine AllReadyH.cons (o := { dst := some 14, op := _, type := _, pos := _, after := _, guard := _ }) rfl (fun K hK => ?_) ?_
        · go_simp
          go_at_call 111
          refine (c111 _ (0 + 10 + 1) 9 _ (by omega) HR).mono ?_
          rintro e v13 ⟨x2, rfl, x2a, x2b, hr, hg⟩
          have x2b := x2b (by omega)
          have hrow := hrow.keptR hg hblk
          have HR := hr
          have HG := grown_trans HG hg
          have HL := HL.kept hg hgb
          clear hr hg
          try go_wp2_with fail
          refine hK.out _ _ trivial (fun hHeld => ?_)
          clear hK K hHeld
          try simp only [Act.put, List.setIfInBounds_toArray, List.set_cons_zero, List.set_cons_succ]
          have hSn : (fun _ : World => True) v13 := trivial
          refine wpAnyH_take (i := 9) (oi := { dst := some 2, op := _, type := _, pos := _, after := _, guard := _ }) (v := ?_) rfl (by kernel_rfl) (by kernel_rfl) (by kernel_rfl) (fun _ _ _ h => h) (Or.inl ⟨by rfl, ?_⟩) (by assumption) ?_
          rotate_left
          · intro w hSw
            first | (go_simp; done) | (go_simp; with_reducible rfl)
          try simp only [Act.put, List.setIfInBounds_toArray, List.set_cons_zero, List.set_cons_succ]
          refine wpAnyH_take (i := 10) (oi := { dst := some 3, op := _, type := _, pos := _, after := _, guard := _ }) (v := ?_) rfl (by kernel_rfl) (by kernel_rfl) (by kernel_rfl) (fun _ _ _ h => h) (Or.inl ⟨by rfl, ?_⟩) (by assumption) ?_
          rotate_left
          · intro w hSw
            first | (go_simp; done) | (go_simp; with_reducible rfl)
          try simp only [Act.put, List.setIfInBounds_toArray, List.set_cons_zero, List.set_cons_succ]
          obtain ⟨jN, y, rfl, hjN, hy, hcy⟩ := lit_val (l := [0, 10, -10, 100, -100, 100000, -100000, -9223372036854775808, 9223372036854775807]) HL x2a (by simpa using x2b)
          have hj9 : jN < 9 := by simpa using hjN
          have hjI : (jN : Int) < 9 := by omega
          have hjP : (0 : Int) ≤ (jN : Int) := by omega
          have hSn : (fun _ : World => True) v13 := trivial
          refine wpAnyH_take (i := 7) (oi := { dst := some 15, op := _, type := _, pos := _, after := _, guard := _ }) (v := ?_) rfl (by kernel_rfl) (by kernel_rfl) (by kernel_rfl) (fun _ _ _ h => h) (Or.inl ⟨by rfl, ?_⟩) (by assumption) ?_
          rotate_left
          · intro w hSw
            first | (go_simp; done) | (go_simp; with_reducible rfl)
          try simp only [Act.put, List.setIfInBounds_toArray, List.set_cons_zero, List.set_cons_succ]
          refine wpAnyH_ready (rs := [8]) (by kernel_rfl) (by simp) ?_
          refine AllReadyH.cons (o := { dst := some 16, op := _, type := _, pos := _, after := _, guard := _ }) rfl (fun K hK => ?_) AllReadyH.nil
          go_simp
          try go_wp2_with fail
          refine hK.out _ _ trivial (fun hHeld => ?_)
          clear hK K hHeld
          try simp only [Act.put, List.setIfInBounds_toArray, List.set_cons_zero, List.set_cons_succ]
          have hSn : (fun _ : World => True) v13 := trivial
          refine wpAnyH_take (i := 11) (oi := { dst := some 4, op := _, type := _, pos := _, after := _, guard := _ }) (v := ?_) rfl (by kernel_rfl) (by kernel_rfl) (by kernel_rfl) (fun _ _ _ h => h) (Or.inl ⟨by rfl, ?_⟩) (by assumption) ?_
          rotate_left
          · intro w hSw
            first | (go_simp; done) | (go_simp; with_reducible rfl)
          try simp only [Act.put, List.setIfInBounds_toArray, List.set_cons_zero, List.set_cons_succ]
          have hyf : -9223372036854775808 ≤ y ∧ y ≤ 9223372036854775807 := by simp at hy; omega
          have HYF := hide hyf
          have HBB := hide (below_of_grown hb1 HG)
          have HRW := hide hrow
          have HZ := hide hz
          have HLN := hide hln
          refine wpAnyH_done (by kernel_rfl) ?_ _
          clear HR HG HL hrow hz hln hcy hy hyf hblk hr1 hb1
          go_wp2_with fail
          go_ret3
          exact ⟨x1, y, unhide HYF, ao2, n2, cap2, zs, rfl, HLN.out, hn6, hnc, unhide HZ, unhide HRW, unhide HBB⟩
        exact AllReadyH.nil
      exact AllReadyH.nil
    exact AllReadyH.nil
  exact AllReadyH.nil

set_option maxHeartbeats 4000000 in
theorem c75 (bs : List Int) (ao : Option Addr) (n cap : Nat) (w : World) (hn : bs.length = n) (hc : n ≤ cap) (hm : cap ≤ maxLen) (hB : Bytes w ao bs) :
    Calls Try.prog 75 #[.slice ao n cap] w fun e w' => ∃ u u2 d : Int, (-9223372036854775808 ≤ d ∧ d ≤ 9223372036854775807) ∧ DrawnP w e w' (fun v => .tuple #[v, .int .i64 u, .int .i64 u2, .int .i64 d]) := by
  have HB := hide hB
  clear hB
  go_enter Try.func75, Try.ntmps75
  go_wp2_with fail
  refine (c105 bs ao n cap _ hn hc hm (unhide HB)).mono ?_
  rintro e w1 ⟨rfl, hr1, hb1, hl1⟩
  clear hn hc hm HB
  go_wp2_with fail
  refine wp_region_held_drew (S := fun _ => True) (by kernel_rfl) trivial (fun hHeld => ?_)
  refine wpAnyH_take (i := 0) (oi := { dst := some 9, op := _, type := _, pos := _, after := _, guard := _ }) (v := ?_) rfl (by kernel_rfl) (by kernel_rfl) (by kernel_rfl) (fun _ _ _ h => h) (Or.inl ⟨by rfl, ?_⟩) (by assumption) ?_
  rotate_left
  · intro w hSw
    first | (go_simp; done) | (go_simp; with_reducible rfl)
  try simp only [Act.put, List.setIfInBounds_toArray, List.set_cons_zero, List.set_cons_succ]
  refine wpAnyH_take (i := 2) (oi := { dst := some 11, op := _, type := _, pos := _, after := _, guard := _ }) (v := ?_) rfl (by kernel_rfl) (by kernel_rfl) (by kernel_rfl) (fun _ _ _ h => h) (Or.inl ⟨by rfl, ?_⟩) (by assumption) ?_
  rotate_left
  · intro w hSw
    first | (go_simp; done) | (go_simp; with_reducible rfl)
  try simp only [Act.put, List.setIfInBounds_toArray, List.set_cons_zero, List.set_cons_succ]
  refine wpAnyH_take (i := 4) (oi := { dst := some 13, op := _, type := _, pos := _, after := _, guard := _ }) (v := ?_) rfl (by kernel_rfl) (by kernel_rfl) (by kernel_rfl) (fun _ _ _ h => h) (Or.inl ⟨by rfl, ?_⟩) (by assumption) ?_
  rotate_left
  · intro w hSw
    first | (go_simp; done) | (go_simp; with_reducible rfl)
  try simp only [Act.put, List.setIfInBounds_toArray, List.set_cons_zero, List.set_cons_succ]
  refine wpAnyH_take (i := 7) (oi := { dst := some 16, op := _, type := _, pos := _, after := _, guard := _ }) (v := ?_) rfl (by kernel_rfl) (by kernel_rfl) (by kernel_rfl) (fun _ _ _ h => h) (Or.inl ⟨by rfl, ?_⟩) (by assumption) ?_
  rotate_left
  · intro w hSw
    first | (go_simp; done) | (go_simp; with_reducible rfl)
  try simp only [Act.put, List.setIfInBounds_toArray, List.set_cons_zero, List.set_cons_succ]
  have hS0 : (fun _ : World => True) w1.drew := trivial
  have HG := grown_drew w1 (some w.heap.size)
  have HR := hr1.kept (grown_drew w1 none) (fun b hb => by cases hb)
  generalize w1.drew = V0 at *
  refine wpAnyH_ready (rs := [1, 6]) (by kernel_rfl) (by simp) ?_
  refine AllReadyH.cons (o := { dst := some 10, op := _, type := _, pos := _, after := _, guard := _ }) rfl (fun K hK => ?_) ?_
  · go_simp
    go_at_call 138
    refine (c138 _ 0 12 _ (by omega) (by omega) HR).mono ?_
    rintro e v1 ⟨ao2, n2, cap2, zs, rfl, hln, hn6, hnc, hz, hrow, hblk0, hr, hg⟩
    have hblk : ∀ a, ao2 = some a → w.heap.size < a.block := fun a ha => by have := hblk0 a ha; have := HG.size; omega
    clear hblk0
    have HR := hr
    have HG := grown_trans HG hg
    clear hr hg
    try go_wp2_with fail
    refine hK.out _ _ trivial (fun hHeld => ?_)
    clear hK K hHeld
    try simp only [Act.put, List.setIfInBounds_toArray, List.set_cons_zero, List.set_cons_succ]
    refine wpAnyH_ready (rs := [3, 6]) (by kernel_rfl) (by simp) ?_
    refine AllReadyH.cons (o := { dst := some 12, op := _, type := _, pos := _, after := _, guard := _ }) rfl (fun K hK => ?_) ?_
    · go_simp
      go_at_call 111
      refine (c111 _ (0 + 10) 7 _ (by omega) HR).mono ?_
      rintro e v2 ⟨x1, rfl, x1a, x1b, hr, hg⟩
      have x1b := x1b (by omega)
      have hrow := hrow.keptR hg hblk
      have HR := hr
      have HG := grown_trans HG hg
      clear hr hg
      try go_wp2_with fail
      refine hK.out _ _ trivial (fun hHeld => ?_)
      clear hK K hHeld
      try simp only [Act.put, List.setIfInBounds_toArray, List.set_cons_zero, List.set_cons_succ]
      refine wpAnyH_ready (rs := [5, 6]) (by kernel_rfl) (by simp) ?_
      refine AllReadyH.cons (o := { dst := some 14, op := _, type := _, pos := _, after := _, guard := _ }) rfl (fun K hK => ?_) ?_
      · go_simp
        go_at_call 111
        refine (c111 _ (0 + 10 + 1) 7 _ (by omega) HR).mono ?_
        rintro e v3 ⟨x2, rfl, x2a, x2b, hr, hg⟩
        have x2b := x2b (by omega)
        have hrow := hrow.keptR hg hblk
        have HR := hr
        have HG := grown_trans HG hg
        clear hr hg
        try go_wp2_with fail
        refine hK.out _ _ trivial (fun hHeld => ?_)
        clear hK K hHeld
        try simp only [Act.put, List.setIfInBounds_toArray, List.set_cons_zero, List.set_cons_succ]
        refine wpAnyH_ready (rs := [6, 8]) (by kernel_rfl) (by simp) ?_
        refine AllReadyH.cons (o := { dst := some 15, op := _, type := _, pos := _, after := _, guard := _ }) rfl (fun K hK => ?_) ?_
        · go_simp
          refine hK.out _ _ trivial (fun hHeld => ?_)
          clear hK K hHeld
          try simp only [Act.put, List.setIfInBounds_toArray, List.set_cons_zero, List.set_cons_succ]
          have HL : Lits (v3.alloc (.cells #[.int .i64 (0), .int .i64 (10), .int .i64 (30), .int .i64 (100), .int .i64 (1001), .int .i64 (-1), .int .i64 (100000), .int .i64 (-9223372036854775808)] 3)) v3.heap.size [0, 10, 30, 100, 1001, -1, 100000, -9223372036854775808] := lits_new v3 [0, 10, 30, 100, 1001, -1, 100000, -9223372036854775808]
          have hgb : w.heap.size < v3.heap.size := Nat.lt_of_lt_of_le hl1 HG.size
          have hga := World.grownBy_alloc v3 (.cells #[.int .i64 (0), .int .i64 (10), .int .i64 (30), .int .i64 (100), .int .i64 (1001), .int .i64 (-1), .int .i64 (100000), .int .i64 (-9223372036854775808)] 3) (some w.heap.size)
          have HR := HR.alloc (.cells #[.int .i64 (0), .int .i64 (10), .int .i64 (30), .int .i64 (100), .int .i64 (1001), .int .i64 (-1), .int .i64 (100000), .int .i64 (-9223372036854775808)] 3)
          have HG := grown_trans HG hga
          have hrow := hrow.keptR hga hblk
          clear hga
          generalize v3.alloc (.cells #[.int .i64 (0), .int .i64 (10), .int .i64 (30), .int .i64 (100), .int .i64 (1001), .int .i64 (-1), .int .i64 (100000), .int .i64 (-9223372036854775808)] 3) = v4 at *
          generalize v3.heap.size = gb at *
          refine wpAnyH_ready (rs := [8]) (by kernel_rfl) (by simp) ?_
          refine AllReadyH.cons (o := { dst := some 17, op := _, type := _, pos := _, after := _, guard := _ }) rfl (fun K hK => ?_) ?_
          · go_simp
            go_at_call 111
            refine (c111 _ (0 + 10 + 1 + 1) 8 _ (by omega) HR).mono ?_
            rintro e v5 ⟨x3, rfl, x3a, x3b, hr, hg⟩
            have x3b := x3b (by omega)
            have hrow := hrow.keptR hg hblk
            have HR := hr
            have HG := grown_trans HG hg
            have HL := HL.kept hg hgb
            clear hr hg
            try go_wp2_with fail
            refine hK.out _ _ trivial (fun hHeld => ?_)
            clear hK K hHeld
            try simp only [Act.put, List.setIfInBounds_toArray, List.set_cons_zero, List.set_cons_succ]
            have hSn : (fun _ : World => True) v5 := trivial
            refine wpAnyH_take (i := 11) (oi := { dst := some 2, op := _, type := _, pos := _, after := _, guard := _ }) (v := ?_) rfl (by kernel_rfl) (by kernel_rfl) (by kernel_rfl) (fun _ _ _ h => h) (Or.inl ⟨by rfl, ?_⟩) (by assumption) ?_
            rotate_left
            · intro w hSw
              first | (go_simp; done) | (go_simp; with_reducible rfl)
            try simp only [Act.put, List.setIfInBounds_toArray, List.set_cons_zero, List.set_cons_succ]
            refine wpAnyH_take (i := 12) (oi := { dst := some 3, op := _, type := _, pos := _, after := _, guard := _ }) (v := ?_) rfl (by kernel_rfl) (by kernel_rfl) (by kernel_rfl) (fun _ _ _ h => h) (Or.inl ⟨by rfl, ?_⟩) (by assumption) ?_
            rotate_left
            · intro w hSw
              first | (go_simp; done) | (go_simp; with_reducible rfl)
            try simp only [Act.put, List.setIfInBounds_toArray, List.set_cons_zero, List.set_cons_succ]
            refine wpAnyH_take (i := 13) (oi := { dst := some 4, op := _, type := _, pos := _, after := _, guard := _ }) (v := ?_) rfl (by kernel_rfl) (by kernel_rfl) (by kernel_rfl) (fun _ _ _ h => h) (Or.inl ⟨by rfl, ?_⟩) (by assumption) ?_
            rotate_left
            · intro w hSw
              first | (go_simp; done) | (go_simp; with_reducible rfl)
            try simp only [Act.put, List.setIfInBounds_toArray, List.set_cons_zero, List.set_cons_succ]
            obtain ⟨jN, y, rfl, hjN, hy, hcy⟩ := lit_val (l := [0, 10, 30, 100, 1001, -1, 100000, -9223372036854775808]) HL x3a (by simpa using x3b)
            have hj9 : jN < 8 := by simpa using hjN
            have hjI : (jN : Int) < 8 := by omega
            have hjP : (0 : Int) ≤ (jN : Int) := by omega
            have hSn : (fun _ : World => True) v5 := trivial
            refine wpAnyH_take (i := 9) (oi := { dst := some 18, op := _, type := _, pos := _, after := _, guard := _ }) (v := ?_) rfl (by kernel_rfl) (by kernel_rfl) (by kernel_rfl) (fun _ _ _ h => h) (Or.inl ⟨by rfl, ?_⟩) (by assumption) ?_
            rotate_left
            · intro w hSw
              first | (go_simp; done) | (go_simp; with_reducible rfl)
            try simp only [Act.put, List.setIfInBounds_toArray, List.set_cons_zero, List.set_cons_succ]
            refine wpAnyH_ready (rs := [10]) (by kernel_rfl) (by simp) ?_
            refine AllReadyH.cons (o := { dst := some 19, op := _, type := _, pos := _, after := _, guard := _ }) rfl (fun K hK => ?_) AllReadyH.nil
            go_simp
            try go_wp2_with fail
            refine hK.out _ _ trivial (fun hHeld => ?_)
            clear hK K hHeld
            try simp only [Act.put, List.setIfInBounds_toArray, List.set_cons_zero, List.set_cons_succ]
            have hSn : (fun _ : World => True) v5 := trivial
            refine wpAnyH_take (i := 14) (oi := { dst := some 5, op := _, type := _, pos := _, after := _, guard := _ }) (v := ?_) rfl (by kernel_rfl) (by kernel_rfl) (by kernel_rfl) (fun _ _ _ h => h) (Or.inl ⟨by rfl, ?_⟩) (by assumption) ?_
            rotate_left
            · intro w hSw
              first | (go_simp; done) | (go_simp; with_reducible rfl)
            try simp only [Act.put, List.setIfInBounds_toArray, List.set_cons_zero, List.set_cons_succ]
            have hyf : -9223372036854775808 ≤ y ∧ y ≤ 9223372036854775807 := by simp at hy; omega
            have HYF := hide hyf
            have HBB := hide (below_of_grown hb1 HG)
            have HRW := hide hrow
            have HZ := hide hz
            have HLN := hide hln
            refine wpAnyH_done (by kernel_rfl) ?_ _
            clear HR HG HL hrow hz hln hcy hy hyf hblk hr1 hb1
            go_wp2_with fail
            try simp only [Exit.inBlock, Exit.then]
            refine bodyPost_ret (results_tmp4x rfl _ _ _) rfl ?_
            exact ⟨x1, x2, y, unhide HYF, ao2, n2, cap2, zs, rfl, HLN.out, hn6, hnc, unhide HZ, unhide HRW, unhide HBB⟩
          exact AllReadyH.nil
        refine AllReadyH.cons (o := { dst := some 17, op := _, type := _, pos := _, after := _, guard := _ }) rfl (fun K hK => ?_) ?_
        · go_simp
          go_at_call 111
          refine (c111 _ (0 + 10 + 1 + 1) 8 _ (by omega) HR).mono ?_
          rintro e v6 ⟨x3, rfl, x3a, x3b, hr, hg⟩
          have x3b := x3b (by omega)
          have hrow := hrow.keptR hg hblk
          have HR := hr
          have HG := grown_trans HG hg
          clear hr hg
          try go_wp2_with fail
          refine hK.out _ _ trivial (fun hHeld => ?_)
          clear hK K hHeld
          try simp only [Act.put, List.setIfInBounds_toArray, List.set_cons_zero, List.set_cons_succ]
          have hSn : (fun _ : World => True) v6 := trivial
          refine wpAnyH_take (i := 11) (oi := { dst := some 2, op := _, type := _, pos := _, after := _, guard := _ }) (v := ?_) rfl (by kernel_rfl) (by kernel_rfl) (by kernel_rfl) (fun _ _ _ h => h) (Or.inl ⟨by rfl, ?_⟩) (by assumption) ?_
          rotate_left
          · intro w hSw
            first | (go_simp; done) | (go_simp; with_reducible rfl)
          try simp only [Act.put, List.setIfInBounds_toArray, List.set_cons_zero, List.set_cons_succ]
          refine wpAnyH_take (i := 12) (oi := { dst := some 3, op := _, type := _, pos := _, after := _, guard := _ }) (v := ?_) rfl (by kernel_rfl) (by kernel_rfl) (by kernel_rfl) (fun _ _ _ h => h) (Or.inl ⟨by rfl, ?_⟩) (by assumption) ?_
          rotate_left
          · intro w hSw
            first | (go_simp; done) | (go_simp; with_reducible rfl)
          try simp only [Act.put, List.setIfInBounds_toArray, List.set_cons_zero, List.set_cons_succ]
          refine wpAnyH_take (i := 13) (oi := { dst := some 4, op := _, type := _, pos := _, after := _, guard := _ }) (v := ?_) rfl (by kernel_rfl) (by kernel_rfl) (by kernel_rfl) (fun _ _ _ h => h) (Or.inl ⟨by rfl, ?_⟩) (by assumption) ?_
          rotate_left
          · intro w hSw
            first | (go_simp; done) | (go_simp; with_reducible rfl)
          try simp only [Act.put, List.setIfInBounds_toArray, List.set_cons_zero, List.set_cons_succ]
          refine wpAnyH_ready (rs := [6]) (by kernel_rfl) (by simp) ?_
          refine AllReadyH.cons (o := { dst := some 15, op := _, type := _, pos := _, after := _, guard := _ }) rfl (fun K hK => ?_) ?_
          · go_simp
            refine hK.out _ _ trivial (fun hHeld => ?_)
            clear hK K hHeld
            try simp only [Act.put, List.setIfInBounds_toArray, List.set_cons_zero, List.set_cons_succ]
            have HL : Lits (v6.alloc (.cells #[.int .i64 (0), .int .i64 (10), .int .i64 (30), .int .i64 (100), .int .i64 (1001), .int .i64 (-1), .int .i64 (100000), .int .i64 (-9223372036854775808)] 3)) v6.heap.size [0, 10, 30, 100, 1001, -1, 100000, -9223372036854775808] := lits_new v6 [0, 10, 30, 100, 1001, -1, 100000, -9223372036854775808]
            have hgb : w.heap.size < v6.heap.size := Nat.lt_of_lt_of_le hl1 HG.size
            have hga := World.grownBy_alloc v6 (.cells #[.int .i64 (0), .int .i64 (10), .int .i64 (30), .int .i64 (100), .int .i64 (1001), .int .i64 (-1), .int .i64 (100000), .int .i64 (-9223372036854775808)] 3) (some w.heap.size)
            have HR := HR.alloc (.cells #[.int .i64 (0), .int .i64 (10), .int .i64 (30), .int .i64 (100), .int .i64 (1001), .int .i64 (-1), .int .i64 (100000), .int .i64 (-9223372036854775808)] 3)
            have HG := grown_trans HG hga
            have hrow := hrow.keptR hga hblk
            clear hga
            generalize v6.alloc (.cells #[.int .i64 (0), .int .i64 (10), .int .i64 (30), .int .i64 (100), .int .i64 (1001), .int .i64 (-1), .int .i64 (100000), .int .i64 (-9223372036854775808)] 3) = v7 at *
            generalize v6.heap.size = gb at *
            obtain ⟨jN, y, rfl, hjN, hy, hcy⟩ := lit_val (l := [0, 10, 30, 100, 1001, -1, 100000, -9223372036854775808]) HL x3a (by simpa using x3b)
            have hj9 : jN < 8 := by simpa using hjN
            have hjI : (jN : Int) < 8 := by omega
            have hjP : (0 : Int) ≤ (jN : Int) := by omega
            have hSn : (fun _ : World => True) v7 := trivial
            refine wpAnyH_take (i := 9) (oi := { dst := some 18, op := _, type := _, pos := _, after := _, guard := _ }) (v := ?_) rfl (by kernel_rfl) (by kernel_rfl) (by kernel_rfl) (fun _ _ _ h => h) (Or.inl ⟨by rfl, ?_⟩) (by assumption) ?_
            rotate_left
            · intro w hSw
              first | (go_simp; done) | (go_simp; with_reducible rfl)
            try simp only [Act.put, List.setIfInBounds_toArray, List.set_cons_zero, List.set_cons_succ]
            refine wpAnyH_ready (rs := [10]) (by kernel_rfl) (by simp) ?_
            refine AllReadyH.cons (o := { dst := some 19, op := _, type := _, pos := _, after := _, guard := _ }) rfl (fun K hK => ?_) AllReadyH.nil
            go_simp
            try go_wp2_with fail
            refine hK.out _ _ trivial (fun hHeld => ?_)
            clear hK K hHeld
            try simp only [Act.put, List.setIfInBounds_toArray, List.set_cons_zero, List.set_cons_succ]
            have hSn : (fun _ : World => True) v7 := trivial
            refine wpAnyH_take (i := 14) (oi := { dst := some 5, op := _, type := _, pos := _, after := _, guard := _ }) (v := ?_) rfl (by kernel_rfl) (by kernel_rfl) (by kernel_rfl) (fun _ _ _ h => h) (Or.inl ⟨by rfl, ?_⟩) (by assumption) ?_
            rotate_left
            · intro w hSw
              first | (go_simp; done) | (go_simp; with_reducible rfl)
            try simp only [Act.put, List.setIfInBounds_toArray, List.set_cons_zero, List.set_cons_succ]
            have hyf : -9223372036854775808 ≤ y ∧ y ≤ 9223372036854775807 := by simp at hy; omega
            have HYF := hide hyf
            have HBB := hide (below_of_grown hb1 HG)
            have HRW := hide hrow
            have HZ := hide hz
            have HLN := hide hln
            refine wpAnyH_done (by kernel_rfl) ?_ _
            clear HR HG HL hrow hz hln hcy hy hyf hblk hr1 hb1
            go_wp2_with fail
            try simp only [Exit.inBlock, Exit.then]
            refine bodyPost_ret (results_tmp4x rfl _ _ _) rfl ?_
            exact ⟨x1, x2, y, unhide HYF, ao2, n2, cap2, zs, rfl, HLN.out, hn6, hnc, unhide HZ, unhide HRW, unhide HBB⟩
          exact AllReadyH.nil
        exact AllReadyH.nil
      refine AllReadyH.cons (o := { dst := some 15, op := _, type := _, pos := _, after := _, guard := _ }) rfl (fun K hK => ?_) ?_
      · go_simp
        refine hK.out _ _ trivial (fun hHeld => ?_)
        clear hK K hHeld
        try simp only [Act.put, List.setIfInBounds_toArray, List.set_cons_zero, List.set_cons_succ]
        have HL : Lits (v2.alloc (.cells #[.int .i64 (0), .int .i64 (10), .int .i64 (30), .int .i64 (100), .int .i64 (1001), .int .i64 (-1), .int .i64 (100000), .int .i64 (-9223372036854775808)] 3)) v2.heap.size [0, 10, 30, 100, 1001, -1, 100000, -9223372036854775808] := lits_new v2 [0, 10, 30, 100, 1001, -1, 100000, -9223372036854775808]
        have hgb : w.heap.size < v2.heap.size := Nat.lt_of_lt_of_le hl1 HG.size
        have hga := World.grownBy_alloc v2 (.cells #[.int .i64 (0), .int .i64 (10), .int .i64 (30), .int .i64 (100), .int .i64 (1001), .int .i64 (-1), .int .i64 (100000), .int .i64 (-9223372036854775808)] 3) (some w.heap.size)
        have HR := HR.alloc (.cells #[.int .i64 (0), .int .i64 (10), .int .i64 (30), .int .i64 (100), .int .i64 (1001), .int .i64 (-1), .int .i64 (100000), .int .i64 (-9223372036854775808)] 3)
        have HG := grown_trans HG hga
        have hrow := hrow.keptR hga hblk
        clear hga
        generalize v2.alloc (.cells #[.int .i64 (0), .int .i64 (10), .int .i64 (30), .int .i64 (100), .int .i64 (1001), .int .i64 (-1), .int .i64 (100000), .int .i64 (-9223372036854775808)] 3) = v8 at *
        generalize v2.heap.size = gb at *
        refine wpAnyH_ready (rs := [5]) (by kernel_rfl) (by simp) ?_
        refine AllReadyH.cons (o := { dst := some 14, op := _, type := _, pos := _, after := _, guard := _ }) rfl (fun K hK => ?_) ?_
        · go_simp
          go_at_call 111
          refine (c111 _ (0 + 10 + 1) 7 _ (by omega) HR).mono ?_
          rintro e v9 ⟨x2, rfl, x2a, x2b, hr, hg⟩
          have x2b := x2b (by omega)
          have hrow := hrow.keptR hg hblk
          have HR := hr
          have HG := grown_trans HG hg
          have HL := HL.kept hg hgb
          clear hr hg
          try go_wp2_with fail
          refine hK.out _ _ trivial (fun hHeld => ?_)
          clear hK K hHeld
          try simp only [Act.put, List.setIfInBounds_toArray, List.set_cons_zero, List.set_cons_succ]
          refine wpAnyH_ready (rs := [8]) (by kernel_rfl) (by simp) ?_
          refine AllReadyH.cons (o := { dst := some 17, op := _, type := _, pos := _, after := _, guard := _ }) rfl (fun K hK => ?_) ?_
          · go_simp
            go_at_call 111
            refine (c111 _ (0 + 10 + 1 + 1) 8 _ (by omega) HR).mono ?_
            rintro e v10 ⟨x3, rfl, x3a, x3b, hr, hg⟩
            have x3b := x3b (by omega)
            have hrow := hrow.keptR hg hblk
            have HR := hr
            have HG := grown_trans HG hg
            have HL := HL.kept hg hgb
            clear hr hg
            try go_wp2_with fail
            refine hK.out _ _ trivial (fun hHeld => ?_)
            clear hK K hHeld
            try simp only [Act.put, List.setIfInBounds_toArray, List.set_cons_zero, List.set_cons_succ]
            have hSn : (fun _ : World => True) v10 := trivial
            refine wpAnyH_take (i := 11) (oi := { dst := some 2, op := _, type := _, pos := _, after := _, guard := _ }) (v := ?_) rfl (by kernel_rfl) (by kernel_rfl) (by kernel_rfl) (fun _ _ _ h => h) (Or.inl ⟨by rfl, ?_⟩) (by assumption) ?_
            rotate_left
            · intro w hSw
              first | (go_simp; done) | (go_simp; with_reducible rfl)
            try simp only [Act.put, List.setIfInBounds_toArray, List.set_cons_zero, List.set_cons_succ]
            refine wpAnyH_take (i := 12) (oi := { dst := some 3, op := _, type := _, pos := _, after := _, guard := _ }) (v := ?_) rfl (by kernel_rfl) (by kernel_rfl) (by kernel_rfl) (fun _ _ _ h => h) (Or.inl ⟨by rfl, ?_⟩) (by assumption) ?_
            rotate_left
            · intro w hSw
              first | (go_simp; done) | (go_simp; with_reducible rfl)
            try simp only [Act.put, List.setIfInBounds_toArray, List.set_cons_zero, List.set_cons_succ]
            refine wpAnyH_take (i := 13) (oi := { dst := some 4, op := _, type := _, pos := _, after := _, guard := _ }) (v := ?_) rfl (by kernel_rfl) (by kernel_rfl) (by kernel_rfl) (fun _ _ _ h => h) (Or.inl ⟨by rfl, ?_⟩) (by assumption) ?_
            rotate_left
            · intro w hSw
              first | (go_simp; done) | (go_simp; with_reducible rfl)
            try simp only [Act.put, List.setIfInBounds_toArray, List.set_cons_zero, List.set_cons_succ]
            obtain ⟨jN, y, rfl, hjN, hy, hcy⟩ := lit_val (l := [0, 10, 30, 100, 1001, -1, 100000, -9223372036854775808]) HL x3a (by simpa using x3b)
            have hj9 : jN < 8 := by simpa using hjN
            have hjI : (jN : Int) < 8 := by omega
            have hjP : (0 : Int) ≤ (jN : Int) := by omega
            have hSn : (fun _ : World => True) v10 := trivial
            refine wpAnyH_take (i := 9) (oi := { dst := some 18, op := _, type := _, pos := _, after := _, guard := _ }) (v := ?_) rfl (by kernel_rfl) (by kernel_rfl) (by kernel_rfl) (fun _ _ _ h => h) (Or.inl ⟨by rfl, ?_⟩) (by assumption) ?_
            rotate_left
            · intro w hSw
              first | (go_simp; done) | (go_simp; with_reducible rfl)
            try simp only [Act.put, List.setIfInBounds_toArray, List.set_cons_zero, List.set_cons_succ]
            refine wpAnyH_ready (rs := [10]) (by kernel_rfl) (by simp) ?_
            refine AllReadyH.cons (o := { dst := some 19, op := _, type := _, pos := _, after := _, guard := _ }) rfl (fun K hK => ?_) AllReadyH.nil
            go_simp
            try go_wp2_with fail
            refine hK.out _ _ trivial (fun hHeld => ?_)
            clear hK K hHeld
            try simp only [Act.put, List.setIfInBounds_toArray, List.set_cons_zero, List.set_cons_succ]
            have hSn : (fun _ : World => True) v10 := trivial
            refine wpAnyH_take (i := 14) (oi := { dst := some 5, op := _, type := _, pos := _, after := _, guard := _ }) (v := ?_) rfl (by kernel_rfl) (by kernel_rfl) (by kernel_rfl) (fun _ _ _ h => h) (Or.inl ⟨by rfl, ?_⟩) (by assumption) ?_
            rotate_left
            · intro w hSw
              first | (go_simp; done) | (go_simp; with_reducible rfl)
            try simp only [Act.put, List.setIfInBounds_toArray, List.set_cons_zero, List.set_cons_succ]
            have hyf : -9223372036854775808 ≤ y ∧ y ≤ 9223372036854775807 := by simp at hy; omega
            have HYF := hide hyf
            have HBB := hide (below_of_grown hb1 HG)
            have HRW := hide hrow
            have HZ := hide hz
            have HLN := hide hln
            refine wpAnyH_done (by kernel_rfl) ?_ _
            clear HR HG HL hrow hz hln hcy hy hyf hblk hr1 hb1
            go_wp2_with fail
            try simp only [Exit.inBlock, Exit.then]
            refine bodyPost_ret (results_tmp4x rfl _ _ _) rfl ?_
            exact ⟨x1, x2, y, unhide HYF, ao2, n2, cap2, zs, rfl, HLN.out, hn6, hnc, unhide HZ, unhide HRW, unhide HBB⟩
          exact AllReadyH.nil
        exact AllReadyH.nil
      exact AllReadyH.nil
    refine AllReadyH.cons (o := { dst := some 15, op := _, type := _, pos := _, after := _, guard := _ }) rfl (fun K hK => ?_) ?_
    · go_simp
      refine hK.out _ _ trivial (fun hHeld => ?_)
      clear hK K hHeld
      try simp only [Act.put, List.setIfInBounds_toArray, List.set_cons_zero, List.set_cons_succ]
      have HL : Lits (v1.alloc (.cells #[.int .i64 (0), .int .i64 (10), .int .i64 (30), .int .i64 (100), .int .i64 (1001), .int .i64 (-1), .int .i64 (100000), .int .i64 (-9223372036854775808)] 3)) v1.heap.size [0, 10, 30, 100, 1001, -1, 100000, -9223372036854775808] := lits_new v1 [0, 10, 30, 100, 1001, -1, 100000, -9223372036854775808]
      have hgb : w.heap.size < v1.heap.size := Nat.lt_of_lt_of_le hl1 HG.size
      have hga := World.grownBy_alloc v1 (.cells #[.int .i64 (0), .int .i64 (10), .int .i64 (30), .int .i64 (100), .int .i64 (1001), .int .i64 (-1), .int .i64 (100000), .int .i64 (-9223372036854775808)] 3) (some w.heap.size)
      have HR := HR.alloc (.cells #[.int .i64 (0), .int .i64 (10), .int .i64 (30), .int .i64 (100), .int .i64 (1001), .int .i64 (-1), .int .i64 (100000), .int .i64 (-9223372036854775808)] 3)
      have HG := grown_trans HG hga
      have hrow := hrow.keptR hga hblk
      clear hga
      generalize v1.alloc (.cells #[.int .i64 (0), .int .i64 (10), .int .i64 (30), .int .i64 (100), .int .i64 (1001), .int .i64 (-1), .int .i64 (100000), .int .i64 (-9223372036854775808)] 3) = v11 at *
      generalize v1.heap.size = gb at *
      refine wpAnyH_ready (rs := [3]) (by kernel_rfl) (by simp) ?_
      refine AllReadyH.cons (o := { dst := some 12, op := _, type := _, pos := _, after := _, guard := _ }) rfl (fun K hK => ?_) ?_
      · go_simp
        go_at_call 111
        refine (c111 _ (0 + 10) 7 _ (by omega) HR).mono ?_
        rintro e v12 ⟨x1, rfl, x1a, x1b, hr, hg⟩
        have x1b := x1b (by omega)
        have hrow := hrow.keptR hg hblk
        have HR := hr
        have HG := grown_trans HG hg
        have HL := HL.kept hg hgb
        clear hr hg
        try go_wp2_with fail
        refine hK.out _ _ trivial (fun hHeld => ?_)
        clear hK K hHeld
        try simp only [Act.put, List.setIfInBounds_toArray, List.set_cons_zero, List.set_cons_succ]
        refine wpAnyH_ready (rs := [5]) (by kernel_rfl) (by simp) ?_
        refine AllReadyH.cons (o := { dst := some 14, op := _, type := _, pos := _, after := _, guard := _ }) rfl (fun K hK => ?_) ?_
        · go_simp
          go_at_call 111
          refine (c111 _ (0 + 10 + 1) 7 _ (by omega) HR).mono ?_
          rintro e v13 ⟨x2, rfl, x2a, x2b, hr, hg⟩
          have x2b := x2b (by omega)
          have hrow := hrow.keptR hg hblk
          have HR := hr
          have HG := grown_trans HG hg
          have HL := HL.kept hg hgb
          clear hr hg
          try go_wp2_with fail
          refine hK.out _ _ trivial (fun hHeld => ?_)
          clear hK K hHeld
          try simp only [Act.put, List.setIfInBounds_toArray, List.set_cons_zero, List.set_cons_succ]
          refine wpAnyH_ready (rs := [8]) (by kernel_rfl) (by simp) ?_
          refine AllReadyH.cons (o := { dst := some 17, op := _, type := _, pos := _, after := _, guard := _ }) rfl (fun K hK => ?_) ?_
          · go_simp
            go_at_call 111
            refine (c111 _ (0 + 10 + 1 + 1) 8 _ (by omega) HR).mono ?_
            rintro e v14 ⟨x3, rfl, x3a, x3b, hr, hg⟩
            have x3b := x3b (by omega)
            have hrow := hrow.keptR hg hblk
            have HR := hr
            have HG := grown_trans HG hg
            have HL := HL.kept hg hgb
            clear hr hg
            try go_wp2_with fail
            refine hK.out _ _ trivial (fun hHeld => ?_)
            clear hK K hHeld
            try simp only [Act.put, List.setIfInBounds_toArray, List.set_cons_zero, List.set_cons_succ]
            have hSn : (fun _ : World => True) v14 := trivial
            refine wpAnyH_take (i := 11) (oi := { dst := some 2, op := _, type := _, pos := _, after := _, guard := _ }) (v := ?_) rfl (by kernel_rfl) (by kernel_rfl) (by kernel_rfl) (fun _ _ _ h => h) (Or.inl ⟨by rfl, ?_⟩) (by assumption) ?_
            rotate_left
            · intro w hSw
              first | (go_simp; done) | (go_simp; with_reducible rfl)
            try simp only [Act.put, List.setIfInBounds_toArray, List.set_cons_zero, List.set_cons_succ]
            refine wpAnyH_take (i := 12) (oi := { dst := some 3, op := _, type := _, pos := _, after := _, guard := _ }) (v := ?_) rfl (by kernel_rfl) (by kernel_rfl) (by kernel_rfl) (fun _ _ _ h => h) (Or.inl ⟨by rfl, ?_⟩) (by assumption) ?_
            rotate_left
            · intro w hSw
              first | (go_simp; done) | (go_simp; with_reducible rfl)
            try simp only [Act.put, List.setIfInBounds_toArray, List.set_cons_zero, List.set_cons_succ]
            refine wpAnyH_take (i := 13) (oi := { dst := some 4, op := _, type := _, pos := _, after := _, guard := _ }) (v := ?_) rfl (by kernel_rfl) (by kernel_rfl) (by kernel_rfl) (fun _ _ _ h => h) (Or.inl ⟨by rfl, ?_⟩) (by assumption) ?_
            rotate_left
            · intro w hSw
              first | (go_simp; done) | (go_simp; with_reducible rfl)
            try simp only [Act.put, List.setIfInBounds_toArray, List.set_cons_zero, List.set_cons_succ]
            obtain ⟨jN, y, rfl, hjN, hy, hcy⟩ := lit_val (l := [0, 10, 30, 100, 1001, -1, 100000, -9223372036854775808]) HL x3a (by simpa using x3b)
            have hj9 : jN < 8 := by simpa using hjN
            have hjI : (jN : Int) < 8 := by omega
            have hjP : (0 : Int) ≤ (jN : Int) := by omega
            have hSn : (fun _ : World => True) v14 := trivial
            refine wpAnyH_take (i := 9) (oi := { dst := some 18, op := _, type := _, pos := _, after := _, guard := _ }) (v := ?_) rfl (by kernel_rfl) (by kernel_rfl) (by kernel_rfl) (fun _ _ _ h => h) (Or.inl ⟨by rfl, ?_⟩) (by assumption) ?_
            rotate_left
            · intro w hSw
              first | (go_simp; done) | (go_simp; with_reducible rfl)
            try simp only [Act.put, List.setIfInBounds_toArray, List.set_cons_zero, List.set_cons_succ]
            refine wpAnyH_ready (rs := [10]) (by kernel_rfl) (by simp) ?_
            refine AllReadyH.cons (o := { dst := some 19, op := _, type := _, pos := _, after := _, guard := _ }) rfl (fun K hK => ?_) AllReadyH.nil
            go_simp
            try go_wp2_with fail
            refine hK.out _ _ trivial (fun hHeld => ?_)
            clear hK K hHeld
            try simp only [Act.put, List.setIfInBounds_toArray, List.set_cons_zero, List.set_cons_succ]
            have hSn : (fun _ : World => True) v14 := trivial
            refine wpAnyH_take (i := 14) (oi := { dst := some 5, op := _, type := _, pos := _, after := _, guard := _ }) (v := ?_) rfl (by kernel_rfl) (by kernel_rfl) (by kernel_rfl) (fun _ _ _ h => h) (Or.inl ⟨by rfl, ?_⟩) (by assumption) ?_
            rotate_left
            · intro w hSw
              first | (go_simp; done) | (go_simp; with_reducible rfl)
            try simp only [Act.put, List.setIfInBounds_toArray, List.set_cons_zero, List.set_cons_succ]
            have hyf : -9223372036854775808 ≤ y ∧ y ≤ 9223372036854775807 := by simp at hy; omega
            have HYF := hide hyf
            have HBB := hide (below_of_grown hb1 HG)
            have HRW := hide hrow
            have HZ := hide hz
            have HLN := hide hln
            refine wpAnyH_done (by kernel_rfl) ?_ _
            clear HR HG HL hrow hz hln hcy hy hyf hblk hr1 hb1
            go_wp2_with fail
            try simp only [Exit.inBlock, Exit.then]
            refine bodyPost_ret (results_tmp4x rfl _ _ _) rfl ?_
            exact ⟨x1, x2, y, unhide HYF, ao2, n2, cap2, zs, rfl, HLN.out, hn6, hnc, unhide HZ, unhide HRW, unhide HBB⟩
          exact AllReadyH.nil
        exact AllReadyH.nil
      exact AllReadyH.nil
    exact AllReadyH.nil
  refine AllReadyH.cons (o := { dst := some 15, op := _, type := _, pos := _, after := _, guard := _ }) rfl (fun K hK => ?_) ?_
  · go_simp
    refine hK.out _ _ trivial (fun hHeld => ?_)
    clear hK K hHeld
    try simp only [Act.put, List.setIfInBounds_toArray, List.set_cons_zero, List.set_cons_succ]
    have HL : Lits (V0.alloc (.cells #[.int .i64 (0), .int .i64 (10), .int .i64 (30), .int .i64 (100), .int .i64 (1001), .int .i64 (-1), .int .i64 (100000), .int .i64 (-9223372036854775808)] 3)) V0.heap.size [0, 10, 30, 100, 1001, -1, 100000, -9223372036854775808] := lits_new V0 [0, 10, 30, 100, 1001, -1, 100000, -9223372036854775808]
    have hgb : w.heap.size < V0.heap.size := Nat.lt_of_lt_of_le hl1 HG.size
    have hga := World.grownBy_alloc V0 (.cells #[.int .i64 (0), .int .i64 (10), .int .i64 (30), .int .i64 (100), .int .i64 (1001), .int .i64 (-1), .int .i64 (100000), .int .i64 (-9223372036854775808)] 3) (some w.heap.size)
    have HR := HR.alloc (.cells #[.int .i64 (0), .int .i64 (10), .int .i64 (30), .int .i64 (100), .int .i64 (1001), .int .i64 (-1), .int .i64 (100000), .int .i64 (-9223372036854775808)] 3)
    have HG := grown_trans HG hga
    clear hga
    generalize V0.alloc (.cells #[.int .i64 (0), .int .i64 (10), .int .i64 (30), .int .i64 (100), .int .i64 (1001), .int .i64 (-1), .int .i64 (100000), .int .i64 (-9223372036854775808)] 3) = v15 at *
    generalize V0.heap.size = gb at *
    refine wpAnyH_ready (rs := [1]) (by kernel_rfl) (by simp) ?_
    refine AllReadyH.cons (o := { dst := some 10, op := _, type := _, pos := _, after := _, guard := _ }) rfl (fun K hK => ?_) ?_
    · go_simp
      go_at_call 138
      refine (c138 _ 0 12 _ (by omega) (by omega) HR).mono ?_
      rintro e v16 ⟨ao2, n2, cap2, zs, rfl, hln, hn6, hnc, hz, hrow, hblk0, hr, hg⟩
      have hblk : ∀ a, ao2 = some a → w.heap.size < a.block := fun a ha => by have := hblk0 a ha; have := HG.size; omega
      clear hblk0
      have HR := hr
      have HG := grown_trans HG hg
      have HL := HL.kept hg hgb
      clear hr hg
      try go_wp2_with fail
      refine hK.out _ _ trivial (fun hHeld => ?_)
      clear hK K hHeld
      try simp only [Act.put, List.setIfInBounds_toArray, List.set_cons_zero, List.set_cons_succ]
      refine wpAnyH_ready (rs := [3]) (by kernel_rfl) (by simp) ?_
      refine AllReadyH.cons (o := { dst := some 12, op := _, type := _, pos := _, after := _, guard := _ }) rfl (fun K hK => ?_) ?_
      · go_simp
        go_at_call 111
        refine (c111 _ (0 + 10) 7 _ (by omega) HR).mono ?_
        rintro e v17 ⟨x1, rfl, x1a, x1b, hr, hg⟩
        have x1b := x1b (by omega)
        have hrow := hrow.keptR hg hblk
        have HR := hr
        have HG := grown_trans HG hg
        have HL := HL.kept hg hgb
        clear hr hg
        try go_wp2_with fail
        refine hK.out _ _ trivial (fun hHeld => ?_)
        clear hK K hHeld
        try simp only [Act.put, List.setIfInBounds_toArray, List.set_cons_zero, List.set_cons_succ]
        refine wpAnyH_ready (rs := [5]) (by kernel_rfl) (by simp) ?_
        refine AllReadyH.cons (o := { dst := some 14, op := _, type := _, pos := _, after := _, guard := _ }) rfl (fun K hK => ?_) ?_
        · go_simp
          go_at_call 111
          refine (c111 _ (0 + 10 + 1) 7 _ (by omega) HR).mono ?_
          rintro e v18 ⟨x2, rfl, x2a, x2b, hr, hg⟩
          have x2b := x2b (by omega)
          have hrow := hrow.keptR hg hblk
          have HR := hr
          have HG := grown_trans HG hg
          have HL := HL.kept hg hgb
          clear hr hg
          try go_wp2_with fail
          refine hK.out _ _ trivial (fun hHeld => ?_)
          clear hK K hHeld
          try simp only [Act.put, List.setIfInBounds_toArray, List.set_cons_zero, List.set_cons_succ]
          refine wpAnyH_ready (rs := [8]) (by kernel_rfl) (by simp) ?_
          refine AllReadyH.cons (o := { dst := some 17, op := _, type := _, pos := _, after := _, guard := _ }) rfl (fun K hK => ?_) ?_
          · go_simp
            go_at_call 111
            refine (c111 _ (0 + 10 + 1 + 1) 8 _ (by omega) HR).mono ?_
            rintro e v19 ⟨x3, rfl, x3a, x3b, hr, hg⟩
            have x3b := x3b (by omega)
            have hrow := hrow.keptR hg hblk
            have HR := hr
            have HG := grown_trans HG hg
            have HL := HL.kept hg hgb
            clear hr hg
            try go_wp2_with fail
            refine hK.out _ _ trivial (fun hHeld => ?_)
            clear hK K hHeld
            try simp only [Act.put, List.setIfInBounds_toArray, List.set_cons_zero, List.set_cons_succ]
            have hSn : (fun _ : World => True) v19 := trivial
            refine wpAnyH_take (i := 11) (oi := { dst := some 2, op := _, type := _, pos := _, after := _, guard := _ }) (v := ?_) rfl (by kernel_rfl) (by kernel_rfl) (by kernel_rfl) (fun _ _ _ h => h) (Or.inl ⟨by rfl, ?_⟩) (by assumption) ?_
            rotate_left
            · intro w hSw
              first | (go_simp; done) | (go_simp; with_reducible rfl)
            try simp only [Act.put, List.setIfInBounds_toArray, List.set_cons_zero, List.set_cons_succ]
            refine wpAnyH_take (i := 12) (oi := { dst := some 3, op := _, type := _, pos := _, after := _, guard := _ }) (v := ?_) rfl (by kernel_rfl) (by kernel_rfl) (by kernel_rfl) (fun _ _ _ h => h) (Or.inl ⟨by rfl, ?_⟩) (by assumption) ?_
            rotate_left
            · intro w hSw
              first | (go_simp; done) | (go_simp; with_reducible rfl)
            try simp only [Act.put, List.setIfInBounds_toArray, List.set_cons_zero, List.set_cons_succ]
            refine wpAnyH_take (i := 13) (oi := { dst := some 4, op := _, type := _, pos := _, after := _, guard := _ }) (v := ?_) rfl (by kernel_rfl) (by kernel_rfl) (by kernel_rfl) (fun _ _ _ h => h) (Or.inl ⟨by rfl, ?_⟩) (by assumption) ?_
            rotate_left
            · intro w hSw
              first | (go_simp; done) | (go_simp; with_reducible rfl)
            try simp only [Act.put, List.setIfInBounds_toArray, List.set_cons_zero, List.set_cons_succ]
            obtain ⟨jN, y, rfl, hjN, hy, hcy⟩ := lit_val (l := [0, 10, 30, 100, 1001, -1, 100000, -9223372036854775808]) HL x3a (by simpa using x3b)
            have hj9 : jN < 8 := by simpa using hjN
            have hjI : (jN : Int) < 8 := by omega
            have hjP : (0 : Int) ≤ (jN : Int) := by omega
            have hSn : (fun _ : World => True) v19 := trivial
            refine wpAnyH_take (i := 9) (oi := { dst := some 18, op := _, type := _, pos := _, after := _, guard := _ }) (v := ?_) rfl (by kernel_rfl) (by kernel_rfl) (by kernel_rfl) (fun _ _ _ h => h) (Or.inl ⟨by rfl, ?_⟩) (by assumption) ?_
            rotate_left
            · intro w hSw
              first | (go_simp; done) | (go_simp; with_reducible rfl)
            try simp only [Act.put, List.setIfInBounds_toArray, List.set_cons_zero, List.set_cons_succ]
            refine wpAnyH_ready (rs := [10]) (by kernel_rfl) (by simp) ?_
            refine AllReadyH.cons (o := { dst := some 19, op := _, type := _, pos := _, after := _, guard := _ }) rfl (fun K hK => ?_) AllReadyH.nil
            go_simp
            try go_wp2_with fail
            refine hK.out _ _ trivial (fun hHeld => ?_)
            clear hK K hHeld
            try simp only [Act.put, List.setIfInBounds_toArray, List.set_cons_zero, List.set_cons_succ]
            have hSn : (fun _ : World => True) v19 := trivial
            refine wpAnyH_take (i := 14) (oi := { dst := some 5, op := _, type := _, pos := _, after := _, guard := _ }) (v := ?_) rfl (by kernel_rfl) (by kernel_rfl) (by kernel_rfl) (fun _ _ _ h => h) (Or.inl ⟨by rfl, ?_⟩) (by assumption) ?_
            rotate_left
            · intro w hSw
              first | (go_simp; done) | (go_simp; with_reducible rfl)
            try simp only [Act.put, List.setIfInBounds_toArray, List.set_cons_zero, List.set_cons_succ]
            have hyf : -9223372036854775808 ≤ y ∧ y ≤ 9223372036854775807 := by simp at hy; omega
            have HYF := hide hyf
            have HBB := hide (below_of_grown hb1 HG)
            have HRW := hide hrow
            have HZ := hide hz
            have HLN := hide hln
            refine wpAnyH_done (by kernel_rfl) ?_ _
            clear HR HG HL hrow hz hln hcy hy hyf hblk hr1 hb1
            go_wp2_with fail
            try simp only [Exit.inBlock, Exit.then]
            refine bodyPost_ret (results_tmp4x rfl _ _ _) rfl ?_
            exact ⟨x1, x2, y, unhide HYF, ao2, n2, cap2, zs, rfl, HLN.out, hn6, hnc, unhide HZ, unhide HRW, unhide HBB⟩
          exact AllReadyH.nil
        exact AllReadyH.nil
      exact AllReadyH.nil
    exact AllReadyH.nil
  exact AllReadyH.nil
end Go.Proofs.Ytjdnengmllamcaa
