/-
  Texts of the proof, what it needs of them: Tickd.
-/
import Derived.Test.YtmlbphmbffkdnaaGt41
import Derived.Test.YtmlbphmbffkdnaaGt42
namespace Go.Proofs.Ytmlbphmbffkdnaa
open Go.RowKit
set_option linter.unusedVariables false
set_option maxRecDepth 100000

theorem BelB.mono {b b' : Nat} {a w : World} (h : BelB b a w) (hb : b' ≤ b) : BelB b' a w := ⟨h.os, h.tape, h.output, h.size, fun q hq => h.block q (by omega)⟩
theorem belB_of {a b : World} {B : Nat} (k : Below a.heap.size a b) (hl : B ≤ a.heap.size) : BelB B a b := BelB.mono k hl

set_option maxHeartbeats 8000000 in
theorem c120 (h : House) (q : HP) (base : Nat) (w : World) (hs : Small h) (hpr : Prices h.ds) (hcl : 0 ≤ h.cl ∧ h.cl ≤ 1000000) (hbs : base ≤ w.heap.size) (ho : HOwn w base q h) :
    Calls Try.prog 120 #[hV q h] w (fun e w' => ∃ q', e = .returned (hV q' (tickH h)) ∧ HOwn w' base q' (tickH h) ∧ BelB base w w') := by
  obtain ⟨es, pu, ds, cl, nu, sa⟩ := h
  obtain ⟨a0, k0, a1, k1, a2, k2, a4, k4, a5, k5⟩ := q
  dsimp only at hpr hcl
  have HSM := hide hs
  have HPR := hide hpr
  have HFE := hide ho.1.1
  have HFP := hide ho.2.1.1
  have HFD := hide ho.2.2.1.1
  have HFN := hide ho.2.2.2.1.1
  have HFS := hide ho.2.2.2.2.1.1
  have hwc : IntKind.i64.wrap (cl + 1) = cl + 1 := wrap_sub (by omega) (by omega)
  have hL1 := live_new (A := []) (C := [(134, 4, .slice a0 es.length k0, es.length, es.flatMap eCells), (3, 1, .slice a1 pu.length k1, pu.length, (pu).map (Value.int .i64)), (42, 5, .slice a2 ds.length k2, ds.length, (ds).flatMap dCells), (3, 1, .slice a4 nu.length k4, nu.length, nu.map (Value.int .i64)), (3, 1, .slice a5 sa.length k5, sa.length, sa.map (Value.int .i64))]) (T := 28) (n := 6) (v := .slice (some ⟨w.heap.size, 0, none⟩) 1 1) (m := 1) (cs := [.slice a0 es.length k0, .slice a1 pu.length k1, .slice a2 ds.length k2, .int .i64 (cl + 1), .slice a4 nu.length k4, .slice a5 sa.length k5]) (liveH ho) (below_a (.cells #[.slice a0 es.length k0, .slice a1 pu.length k1, .slice a2 ds.length k2, .int .i64 (cl + 1), .slice a4 nu.length k4, .slice a5 sa.length k5] 28)) (World.ownsRow_lit w #[.slice a0 es.length k0, .slice a1 pu.length k1, .slice a2 ds.length k2, .int .i64 (cl + 1), .slice a4 nu.length k4, .slice a5 sa.length k5] 1 hbs (by decide) rfl) (fun k hk => by simp [Value.ownBlock] at hk; omega)
  have hL2 := live_new (A := []) (C := [(28, 6, .slice (some ⟨w.heap.size, 0, none⟩) 1 1, 1, [.slice a0 es.length k0, .slice a1 pu.length k1, .slice a2 ds.length k2, .int .i64 (cl + 1), .slice a4 nu.length k4, .slice a5 sa.length k5])] ++ [(134, 4, .slice a0 es.length k0, es.length, es.flatMap eCells), (3, 1, .slice a1 pu.length k1, pu.length, (pu).map (Value.int .i64)), (42, 5, .slice a2 ds.length k2, ds.length, (ds).flatMap dCells), (3, 1, .slice a4 nu.length k4, nu.length, nu.map (Value.int .i64)), (3, 1, .slice a5 sa.length k5, sa.length, sa.map (Value.int .i64))]) (T := 28) (n := 6) (v := .slice (some ⟨(w.alloc (.cells #[.slice a0 es.length k0, .slice a1 pu.length k1, .slice a2 ds.length k2, .int .i64 (cl + 1), .slice a4 nu.length k4, .slice a5 sa.length k5] 28)).heap.size, 0, none⟩) 1 1) (m := 1) (cs := [.slice none 0 0, .slice none 0 0, .slice none 0 0, .int .i64 0, .slice none 0 0, .slice none 0 0]) hL1 (below_a (.cells #[.slice none 0 0, .slice none 0 0, .slice none 0 0, .int .i64 0, .slice none 0 0, .slice none 0 0] 28)) (World.ownsRow_lit (w.alloc (.cells #[.slice a0 es.length k0, .slice a1 pu.length k1, .slice a2 ds.length k2, .int .i64 (cl + 1), .slice a4 nu.length k4, .slice a5 sa.length k5] 28)) #[.slice none 0 0, .slice none 0 0, .slice none 0 0, .int .i64 0, .slice none 0 0, .slice none 0 0] 1 (by simp; omega) (by decide) rfl) (fun k hk => by simp [Value.ownBlock] at hk; simp; omega)
  have hbw := belB_of (B := base) (below_tr (below_a (w := w) (.cells #[.slice a0 es.length k0, .slice a1 pu.length k1, .slice a2 ds.length k2, .int .i64 (cl + 1), .slice a4 nu.length k4, .slice a5 sa.length k5] 28)) (below_a (.cells #[.slice none 0 0, .slice none 0 0, .slice none 0 0, .int .i64 0, .slice none 0 0, .slice none 0 0] 28))) hbs
  simp only [World.size_alloc, List.nil_append, List.cons_append] at hL2
  clear hL1 ho hs hpr
  have HL := hide hL2
  have HBW := hide hbw
  clear hL2 hbw
  have HX := hide ((box_new w [.slice a0 es.length k0, .slice a1 pu.length k1, .slice a2 ds.length k2, .int .i64 cl, .slice a4 nu.length k4, .slice a5 sa.length k5] 28 (by simp [Value.oneCell'])).bel (below_a (.cells #[.slice none 0 0, .slice none 0 0, .slice none 0 0, .int .i64 0, .slice none 0 0, .slice none 0 0] 28)))
  have HY := hide (box_new (w.alloc (.cells #[.slice a0 es.length k0, .slice a1 pu.length k1, .slice a2 ds.length k2, .int .i64 cl, .slice a4 nu.length k4, .slice a5 sa.length k5] 28)) [.slice none 0 0, .slice none 0 0, .slice none 0 0, .int .i64 0, .slice none 0 0, .slice none 0 0] 28 (by simp [Value.oneCell']))
  simp only [World.size_alloc] at HY
  have x0 := (unhide HX).cell 0 rfl
  have x0f := (unhide HX).frozen 0 rfl
  have x1 := (unhide HX).cell 1 rfl
  have x1f := (unhide HX).frozen 1 rfl
  have x2 := (unhide HX).cell 2 rfl
  have x2f := (unhide HX).frozen 2 rfl
  have x3 := (unhide HX).cell 3 rfl
  have x3f := (unhide HX).frozen 3 rfl
  have x4 := (unhide HX).cell 4 rfl
  have x4f := (unhide HX).frozen 4 rfl
  have x5 := (unhide HX).cell 5 rfl
  have x5f := (unhide HX).frozen 5 rfl
  have y0 := (unhide HY).cell 0 rfl
  have y0f := (unhide HY).frozen 0 rfl
  have y1 := (unhide HY).cell 1 rfl
  have y1f := (unhide HY).frozen 1 rfl
  have y2 := (unhide HY).cell 2 rfl
  have y2f := (unhide HY).frozen 2 rfl
  have y3 := (unhide HY).cell 3 rfl
  have y3f := (unhide HY).frozen 3 rfl
  have y4 := (unhide HY).cell 4 rfl
  have y4f := (unhide HY).frozen 4 rfl
  have y5 := (unhide HY).cell 5 rfl
  have y5f := (unhide HY).frozen 5 rfl
  go_enter Try.func120, Try.ntmps120
  go_wp2_with fail
  (try clear x0 x0f x1 x1f x2 x2f x3 x3f x4 x4f x5 x5f y0 y0f y1 y1f y2 y2f y3 y3f y4 y4f y5 y5f)
  clear HX HY
  have hgY : w.heap.size + 1 < ((w.alloc (.cells #[.slice a0 es.length k0, .slice a1 pu.length k1, .slice a2 ds.length k2, .int .i64 (cl + 1), .slice a4 nu.length k4, .slice a5 sa.length k5] 28)).alloc (.cells #[.slice none 0 0, .slice none 0 0, .slice none 0 0, .int .i64 0, .slice none 0 0, .slice none 0 0] 28)).heap.size := by simp
  obtain ⟨W0, hW0⟩ : ∃ W, W = (w.alloc (.cells #[.slice a0 es.length k0, .slice a1 pu.length k1, .slice a2 ds.length k2, .int .i64 (cl + 1), .slice a4 nu.length k4, .slice a5 sa.length k5] 28)).alloc (.cells #[.slice none 0 0, .slice none 0 0, .slice none 0 0, .int .i64 0, .slice none 0 0, .slice none 0 0] 28) := ⟨_, rfl⟩
  rw [← hW0] at HL HBW hgY
  rw [← hW0]
  have hYb : base ≤ w.heap.size + 1 := by omega
  clear hW0
  have hL3 := unhide HL
  have hbw := unhide HBW
  clear HL HBW
  have hL0 : Live W0 base [(28, 6, .slice (some ⟨w.heap.size + 1, 0, none⟩) 1 1, 1, [.slice none 0 0, .slice none 0 0, .slice none 0 0, .int .i64 0, .slice none 0 0, .slice none 0 0]), (28, 6, .slice (some ⟨w.heap.size, 0, none⟩) 1 1, 1, [.slice a0 es.length k0, .slice a1 pu.length k1, .slice a2 ds.length k2, .int .i64 (cl + 1), .slice a4 nu.length k4, .slice a5 sa.length k5]), (134, 4, .slice a0 es.length k0, es.length, es.flatMap eCells), (3, 1, .slice a1 pu.length k1, pu.length, (tickP (cl + 1) pu (ds.take 0)).map (Value.int .i64)), (42, 5, .slice a2 ds.length k2, ds.length, (tickTo (cl + 1) ds 0).flatMap dCells), (3, 1, .slice a4 nu.length k4, nu.length, nu.map (Value.int .i64)), (3, 1, .slice a5 sa.length k5, sa.length, sa.map (Value.int .i64))] := by rw [tickTo_zero, List.take_zero]; exact hL3
  have hf0 : ∀ z ∈ tickP (cl + 1) pu (ds.take 0), -9223372036854775808 ≤ z ∧ z ≤ 9223372036854775807 := by rw [List.take_zero]; exact unhide HFP
  clear hL3 HFP
  go_loopw [3] (fun i wr => ∃ (k : Nat) (c1 : Option Addr) (l1 : Nat), k ≤ ds.length ∧ i = .int .i64 k ∧ Live wr base [(28, 6, .slice (some ⟨w.heap.size + 1, 0, none⟩) 1 1, 1, [.slice none 0 0, .slice none 0 0, .slice none 0 0, .int .i64 0, .slice none 0 0, .slice none 0 0]), (28, 6, .slice (some ⟨w.heap.size, 0, none⟩) 1 1, 1, [.slice a0 es.length k0, .slice c1 pu.length l1, .slice a2 ds.length k2, .int .i64 (cl + 1), .slice a4 nu.length k4, .slice a5 sa.length k5]), (134, 4, .slice a0 es.length k0, es.length, es.flatMap eCells), (3, 1, .slice c1 pu.length l1, pu.length, (tickP (cl + 1) pu (ds.take k)).map (Value.int .i64)), (42, 5, .slice a2 ds.length k2, ds.length, (tickTo (cl + 1) ds k).flatMap dCells), (3, 1, .slice a4 nu.length k4, nu.length, nu.map (Value.int .i64)), (3, 1, .slice a5 sa.length k5, sa.length, sa.map (Value.int .i64))] ∧ (∀ z ∈ tickP (cl + 1) pu (ds.take k), -9223372036854775808 ≤ z ∧ z ≤ 9223372036854775807) ∧ BelB base w wr) (fun i _ => ds.length - (intOf i).toNat)
  case atStart => exact ⟨0, a1, k1, Nat.zero_le _, rfl, hL0, hf0, hbw⟩
  case round =>
    obtain ⟨k, c1, l1, hk, rfl, hL, hfp, hbw2⟩ := hrel
    clear hL0 hf0 hbw
    have HL := hide hL
    have HFP := hide hfp
    have HBW := hide hbw2
    clear hL hfp hbw2
    obtain ⟨WA, hWA⟩ : ∃ A : World, A = wr := ⟨_, rfl⟩
    subst hWA
    have HQ := hide (boxRow2 ((unhide HL).1 (28, 6, .slice (some ⟨w.heap.size, 0, none⟩) 1 1, 1, [.slice a0 es.length k0, .slice c1 pu.length l1, .slice a2 ds.length k2, .int .i64 (cl + 1), .slice a4 nu.length k4, .slice a5 sa.length k5]) (by simp)))
    have hds : ds.length ≤ 1048576 := (unhide HSM).2.2.1
    by_cases hlt : k < ds.length
    case neg =>
      obtain rfl : k = ds.length := by omega
      rw [tickTo_all, List.take_length] at HL
      rw [List.take_length] at HFP
      have HY := hide (boxRow2 ((unhide HL).1 (28, 6, .slice (some ⟨w.heap.size + 1, 0, none⟩) 1 1, 1, [.slice none 0 0, .slice none 0 0, .slice none 0 0, .int .i64 0, .slice none 0 0, .slice none 0 0]) (by simp)))
      have q0 := (unhide HQ).cell 0 rfl
      have q1 := (unhide HQ).cell 1 rfl
      have q2 := (unhide HQ).cell 2 rfl
      have q3 := (unhide HQ).cell 3 rfl
      have q4 := (unhide HQ).cell 4 rfl
      have q5 := (unhide HQ).cell 5 rfl
      have y0 := (unhide HY).cell 0 rfl
      have y0f := (unhide HY).frozen 0 rfl
      have y1 := (unhide HY).cell 1 rfl
      have y1f := (unhide HY).frozen 1 rfl
      have y2 := (unhide HY).cell 2 rfl
      have y2f := (unhide HY).frozen 2 rfl
      have y3 := (unhide HY).cell 3 rfl
      have y3f := (unhide HY).frozen 3 rfl
      have y4 := (unhide HY).cell 4 rfl
      have y4f := (unhide HY).frozen 4 rfl
      have y5 := (unhide HY).cell 5 rfl
      have y5f := (unhide HY).frozen 5 rfl
      go_wp2_with fail
      (try clear q0 q1 q2 q3 q4 q5 y0 y0f y1 y1f y2 y2f y3 y3f y4 y4f y5 y5f)
      clear HQ HY
      have hys : base ≤ WA.heap.size := by have := ((unhide HL).1 (28, 6, .slice (some ⟨w.heap.size + 1, 0, none⟩) 1 1, 1, [.slice none 0 0, .slice none 0 0, .slice none 0 0, .int .i64 0, .slice none 0 0, .slice none 0 0]) (by simp)).lt (w.heap.size + 1) rfl; omega
      replace HL := hide (live_put (A := []) (C := [(28, 6, .slice (some ⟨w.heap.size, 0, none⟩) 1 1, 1, [.slice a0 es.length k0, .slice c1 pu.length l1, .slice a2 ds.length k2, .int .i64 (cl + 1), .slice a4 nu.length k4, .slice a5 sa.length k5]), (134, 4, .slice a0 es.length k0, es.length, es.flatMap eCells), (3, 1, .slice c1 pu.length l1, pu.length, (tickP (cl + 1) pu ds).map (Value.int .i64)), (42, 5, .slice a2 ds.length k2, ds.length, (ds.map (tickD (cl + 1))).flatMap dCells), (3, 1, .slice a4 nu.length k4, nu.length, nu.map (Value.int .i64)), (3, 1, .slice a5 sa.length k5, sa.length, sa.map (Value.int .i64))]) (unhide HL) 0 (.slice a0 es.length k0))
      replace HBW := hide (belB_put (unhide HBW) (w.heap.size + 1) 0 (.slice a0 es.length k0) hYb (by (try simp only [World.size_setCell]); exact hys))
      replace HL := hide (live_put (A := []) (C := [(28, 6, .slice (some ⟨w.heap.size, 0, none⟩) 1 1, 1, [.slice a0 es.length k0, .slice c1 pu.length l1, .slice a2 ds.length k2, .int .i64 (cl + 1), .slice a4 nu.length k4, .slice a5 sa.length k5]), (134, 4, .slice a0 es.length k0, es.length, es.flatMap eCells), (3, 1, .slice c1 pu.length l1, pu.length, (tickP (cl + 1) pu ds).map (Value.int .i64)), (42, 5, .slice a2 ds.length k2, ds.length, (ds.map (tickD (cl + 1))).flatMap dCells), (3, 1, .slice a4 nu.length k4, nu.length, nu.map (Value.int .i64)), (3, 1, .slice a5 sa.length k5, sa.length, sa.map (Value.int .i64))]) (unhide HL) 1 (.slice c1 pu.length l1))
      replace HBW := hide (belB_put (unhide HBW) (w.heap.size + 1) 1 (.slice c1 pu.length l1) hYb (by (try simp only [World.size_setCell]); exact hys))
      replace HL := hide (live_put (A := []) (C := [(28, 6, .slice (some ⟨w.heap.size, 0, none⟩) 1 1, 1, [.slice a0 es.length k0, .slice c1 pu.length l1, .slice a2 ds.length k2, .int .i64 (cl + 1), .slice a4 nu.length k4, .slice a5 sa.length k5]), (134, 4, .slice a0 es.length k0, es.length, es.flatMap eCells), (3, 1, .slice c1 pu.length l1, pu.length, (tickP (cl + 1) pu ds).map (Value.int .i64)), (42, 5, .slice a2 ds.length k2, ds.length, (ds.map (tickD (cl + 1))).flatMap dCells), (3, 1, .slice a4 nu.length k4, nu.length, nu.map (Value.int .i64)), (3, 1, .slice a5 sa.length k5, sa.length, sa.map (Value.int .i64))]) (unhide HL) 2 (.slice a2 ds.length k2))
      replace HBW := hide (belB_put (unhide HBW) (w.heap.size + 1) 2 (.slice a2 ds.length k2) hYb (by (try simp only [World.size_setCell]); exact hys))
      replace HL := hide (live_put (A := []) (C := [(28, 6, .slice (some ⟨w.heap.size, 0, none⟩) 1 1, 1, [.slice a0 es.length k0, .slice c1 pu.length l1, .slice a2 ds.length k2, .int .i64 (cl + 1), .slice a4 nu.length k4, .slice a5 sa.length k5]), (134, 4, .slice a0 es.length k0, es.length, es.flatMap eCells), (3, 1, .slice c1 pu.length l1, pu.length, (tickP (cl + 1) pu ds).map (Value.int .i64)), (42, 5, .slice a2 ds.length k2, ds.length, (ds.map (tickD (cl + 1))).flatMap dCells), (3, 1, .slice a4 nu.length k4, nu.length, nu.map (Value.int .i64)), (3, 1, .slice a5 sa.length k5, sa.length, sa.map (Value.int .i64))]) (unhide HL) 3 (.int .i64 (cl + 1)))
      replace HBW := hide (belB_put (unhide HBW) (w.heap.size + 1) 3 (.int .i64 (cl + 1)) hYb (by (try simp only [World.size_setCell]); exact hys))
      replace HL := hide (live_put (A := []) (C := [(28, 6, .slice (some ⟨w.heap.size, 0, none⟩) 1 1, 1, [.slice a0 es.length k0, .slice c1 pu.length l1, .slice a2 ds.length k2, .int .i64 (cl + 1), .slice a4 nu.length k4, .slice a5 sa.length k5]), (134, 4, .slice a0 es.length k0, es.length, es.flatMap eCells), (3, 1, .slice c1 pu.length l1, pu.length, (tickP (cl + 1) pu ds).map (Value.int .i64)), (42, 5, .slice a2 ds.length k2, ds.length, (ds.map (tickD (cl + 1))).flatMap dCells), (3, 1, .slice a4 nu.length k4, nu.length, nu.map (Value.int .i64)), (3, 1, .slice a5 sa.length k5, sa.length, sa.map (Value.int .i64))]) (unhide HL) 4 (.slice a4 nu.length k4))
      replace HBW := hide (belB_put (unhide HBW) (w.heap.size + 1) 4 (.slice a4 nu.length k4) hYb (by (try simp only [World.size_setCell]); exact hys))
      replace HL := hide (live_put (A := []) (C := [(28, 6, .slice (some ⟨w.heap.size, 0, none⟩) 1 1, 1, [.slice a0 es.length k0, .slice c1 pu.length l1, .slice a2 ds.length k2, .int .i64 (cl + 1), .slice a4 nu.length k4, .slice a5 sa.length k5]), (134, 4, .slice a0 es.length k0, es.length, es.flatMap eCells), (3, 1, .slice c1 pu.length l1, pu.length, (tickP (cl + 1) pu ds).map (Value.int .i64)), (42, 5, .slice a2 ds.length k2, ds.length, (ds.map (tickD (cl + 1))).flatMap dCells), (3, 1, .slice a4 nu.length k4, nu.length, nu.map (Value.int .i64)), (3, 1, .slice a5 sa.length k5, sa.length, sa.map (Value.int .i64))]) (unhide HL) 5 (.slice a5 sa.length k5))
      replace HBW := hide (belB_put (unhide HBW) (w.heap.size + 1) 5 (.slice a5 sa.length k5) hYb (by (try simp only [World.size_setCell]); exact hys))
      have hY6 := boxRow2 ((unhide HL).1 (28, 6, .slice (some ⟨w.heap.size + 1, 0, none⟩) 1 1, 1, [.slice a0 es.length k0, .slice c1 pu.length l1, .slice a2 ds.length k2, .int .i64 (cl + 1), .slice a4 nu.length k4, .slice a5 sa.length k5]) (by simp))
      have hL5 := (live_pair (A := []) (C := [(134, 4, .slice a0 es.length k0, es.length, es.flatMap eCells), (3, 1, .slice c1 pu.length l1, pu.length, (tickP (cl + 1) pu ds).map (Value.int .i64)), (42, 5, .slice a2 ds.length k2, ds.length, (ds.map (tickD (cl + 1))).flatMap dCells), (3, 1, .slice a4 nu.length k4, nu.length, nu.map (Value.int .i64)), (3, 1, .slice a5 sa.length k5, sa.length, sa.map (Value.int .i64))]) |>.1 (live_pair (A := []) (C := [(28, 6, .slice (some ⟨w.heap.size, 0, none⟩) 1 1, 1, [.slice a0 es.length k0, .slice c1 pu.length l1, .slice a2 ds.length k2, .int .i64 (cl + 1), .slice a4 nu.length k4, .slice a5 sa.length k5]), (134, 4, .slice a0 es.length k0, es.length, es.flatMap eCells), (3, 1, .slice c1 pu.length l1, pu.length, (tickP (cl + 1) pu ds).map (Value.int .i64)), (42, 5, .slice a2 ds.length k2, ds.length, (ds.map (tickD (cl + 1))).flatMap dCells), (3, 1, .slice a4 nu.length k4, nu.length, nu.map (Value.int .i64)), (3, 1, .slice a5 sa.length k5, sa.length, sa.map (Value.int .i64))]) |>.1 (unhide HL)).1).1
      have ho := copies5g (cl := cl + 1) (tickP_len _ _ _) (List.length_map (tickD (cl + 1))) (unhide HFE) (unhide HFP) (fit_tick (unhide HFD)) (unhide HFN) (unhide HFS) hL5
      refine bodyPost_ret (v := .agg #[.slice a0 es.length k0, .slice c1 pu.length l1, .slice a2 ds.length k2, .int .i64 (cl + 1), .slice a4 nu.length k4, .slice a5 sa.length k5]) (results_c Try.results120 rfl (load_house hY6)) rfl ?_
      refine ⟨⟨a0, k0, c1, l1, a2, k2, a4, k4, a5, k5⟩, ?_, ho, unhide HBW⟩
      simp only [tickH, hV, tickP_len, List.length_map]
    have HLT : Hid (∃ m, ds.length = k + (1 + m)) := ⟨ds.length - k - 1, by omega⟩
    have e0 : (0 : Int) ≤ (k : Int) := by omega
    have e1 : (k : Int) < (ds.length : Int) := by omega
    obtain ⟨⟨x0, x1, x2, x3, x4⟩, hx⟩ := atDD hlt
    obtain ⟨g2, rfl⟩ := row_some ((unhide HL).1 (42, 5, .slice a2 ds.length k2, ds.length, (tickTo (cl + 1) ds k).flatMap dCells) (by simp)) (by omega)
    have hlB := ((unhide HL).1 (28, 6, .slice (some ⟨w.heap.size, 0, none⟩) 1 1, 1, [.slice a0 es.length k0, .slice c1 pu.length l1, .slice (some ⟨g2, 0, none⟩) ds.length k2, .int .i64 (cl + 1), .slice a4 nu.length k4, .slice a5 sa.length k5]) (by simp)).lt w.heap.size rfl
    have hdc := deal_cell ((unhide HL).1 (42, 5, .slice (some ⟨g2, 0, none⟩) ds.length k2, ds.length, (tickTo (cl + 1) ds k).flatMap dCells) (by simp)) (tickTo_get (c := cl + 1) hx) (tickTo_len _ _ _)
    have g0 := hdc 0 _ rfl (by decide)
    have g1 := hdc 1 _ rfl (by decide)
    have g2c := hdc 2 _ rfl (by decide)
    have g3 := hdc 3 _ rfl (by decide)
    have g4 := hdc 4 _ rfl (by decide)
    simp only [Nat.add_zero] at g0
    clear hdc
    have HXX := hide hx
    have hx3 : 0 ≤ x3 := (unhide HPR _ (List.mem_of_getElem? hx)).2.2
    clear hx hlt
    have p2 := (unhide HQ).cell 2 rfl
    have HQ5 := hide (box_new WA [.int .i64 x0, .int .i64 x1, .int .i64 x2, .int .i64 x3, .int .i64 x4] 42 (by simp [Value.oneCell']))
    replace HL := hide ((unhide HL).bel (below_a (.cells #[.int .i64 x0, .int .i64 x1, .int .i64 x2, .int .i64 x3, .int .i64 x4] 42)))
    replace HQ := hide ((unhide HQ).bel (below_a (.cells #[.int .i64 x0, .int .i64 x1, .int .i64 x2, .int .i64 x3, .int .i64 x4] 42)))
    replace HBW := hide (belB_then (unhide HBW) (below_a (.cells #[.int .i64 x0, .int .i64 x1, .int .i64 x2, .int .i64 x3, .int .i64 x4] 42)) (Nat.le_of_lt (Nat.lt_of_le_of_lt hlB.1 hlB.2)))
    by_cases h3 : x3 = 0
    case pos =>
      subst h3
      have q0 := (unhide HQ).cell 0 rfl
      have q1 := (unhide HQ).cell 1 rfl
      have q2 := (unhide HQ).cell 2 rfl
      have q3 := (unhide HQ).cell 3 rfl
      have q4 := (unhide HQ).cell 4 rfl
      have q5 := (unhide HQ).cell 5 rfl
      have d0 := (unhide HQ5).cell 0 rfl
      have d1 := (unhide HQ5).cell 1 rfl
      have d2 := (unhide HQ5).cell 2 rfl
      have d3 := (unhide HQ5).cell 3 rfl
      have d4 := (unhide HQ5).cell 4 rfl
      go_wp2_with fail
      clear g0 g1 g2c g3 g4 p2
      (try clear q0 q1 q2 q3 q4 q5 d0 d1 d2 d3 d4)
      go_roundw
      case rel => exact ⟨k + 1, c1, l1, by obtain ⟨m, hm⟩ := unhide HLT; omega, by go_num, by rw [tickP_no (unhide HXX) dueB_not, ← tickTo_no (unhide HXX) dueB_not]; exact unhide HL, by rw [tickP_no (unhide HXX) dueB_not]; exact unhide HFP, unhide HBW⟩
      case measure => obtain ⟨m, hm⟩ := unhide HLT; simp [intOf]; omega
    have h33 : (0 : Int) < x3 := by omega
    by_cases h4 : x4 < cl + 1
    case neg =>
      have HDU := hide (dueB_late (c := cl + 1) (x0 := x0) (x1 := x1) (x2 := x2) (x3 := x3) h4)
      clear h3
      have q0 := (unhide HQ).cell 0 rfl
      have q1 := (unhide HQ).cell 1 rfl
      have q2 := (unhide HQ).cell 2 rfl
      have q3 := (unhide HQ).cell 3 rfl
      have q4 := (unhide HQ).cell 4 rfl
      have q5 := (unhide HQ).cell 5 rfl
      have d0 := (unhide HQ5).cell 0 rfl
      have d1 := (unhide HQ5).cell 1 rfl
      have d2 := (unhide HQ5).cell 2 rfl
      have d3 := (unhide HQ5).cell 3 rfl
      have d4 := (unhide HQ5).cell 4 rfl
      go_wp2_with fail
      clear g0 g1 g2c g3 g4 p2
      (try clear q0 q1 q2 q3 q4 q5 d0 d1 d2 d3 d4)
      go_roundw
      case rel => exact ⟨k + 1, c1, l1, by obtain ⟨m, hm⟩ := unhide HLT; omega, by go_num, by rw [tickP_no (unhide HXX) (unhide HDU), ← tickTo_no (unhide HXX) (unhide HDU)]; exact unhide HL, by rw [tickP_no (unhide HXX) (unhide HDU)]; exact unhide HFP, unhide HBW⟩
      case measure => obtain ⟨m, hm⟩ := unhide HLT; simp [intOf]; omega
    have HDU := hide (dueB_yes (c := cl + 1) (x0 := x0) (x1 := x1) (x2 := x2) h3 h4)
    clear h3
    have q0 := (unhide HQ).cell 0 rfl
    have q1 := (unhide HQ).cell 1 rfl
    have q2 := (unhide HQ).cell 2 rfl
    have q3 := (unhide HQ).cell 3 rfl
    have q4 := (unhide HQ).cell 4 rfl
    have q5 := (unhide HQ).cell 5 rfl
    have d0 := (unhide HQ5).cell 0 rfl
    have d1 := (unhide HQ5).cell 1 rfl
    have d2 := (unhide HQ5).cell 2 rfl
    have d3 := (unhide HQ5).cell 3 rfl
    have d4 := (unhide HQ5).cell 4 rfl
    go_wp2_with fail
    clear g0 g1 g2c g3 g4 p2
    obtain ⟨pk, hpk⟩ : ∃ p, p = tickP (cl + 1) pu (ds.take k) := ⟨_, rfl⟩
    have hlen : pk.length = pu.length := by rw [hpk]; exact tickP_len _ _ _
    have HPK := hide hpk
    rw [← hpk] at HL HFP
    clear hpk
    have hp100 := unhide HPR _ (List.mem_of_getElem? (unhide HXX))
    dsimp only at hp100
    have howP : Own _ base (.slice c1 pk.length l1) pk := ⟨unhide HFP, by rw [hlen]; exact (unhide HL).1 (3, 1, .slice c1 pu.length l1, pu.length, (pk).map (Value.int .i64)) (by simp)⟩
    have hzP : c1 = none → l1 = 0 := fun e => by subst e; exact own_cap0 howP
    rw [hlen] at howP
    have h48 : pu.length ≤ 1048576 := (unhide HSM).2.1
    refine (c177 pk x3 x2 c1 pu.length l1 _ hlen h48 (by omega) hzP (own_rowI howP)).mono ?_
    rintro e V ⟨v, rfl, ho, hb⟩
    obtain ⟨c2, l2, rfl⟩ := live_form ho.2
    have hoS : V.ownsRow (WA.alloc (.cells #[.int .i64 x0, .int .i64 x1, .int .i64 x2, .int .i64 x3, .int .i64 x4] 42)).heap.size 3 1 (.slice c2 pu.length l2) pu.length ((Tm.monTurn pk x3 x2).map (Value.int .i64)) := by have h := ho.2; rw [Tm.monTurn_len, hlen] at h; exact h
    rw [Tm.monTurn_len, hlen]
    (try clear q0 q1 q2 q3 q4 q5 d0 d1 d2 d3 d4)
    have hB21 : base ≤ (WA.alloc (.cells #[.int .i64 x0, .int .i64 x1, .int .i64 x2, .int .i64 x3, .int .i64 x4] 42)).heap.size := by simp only [World.size_alloc]; omega
    have hd1 := (live_pair (A := [(28, 6, .slice (some ⟨w.heap.size + 1, 0, none⟩) 1 1, 1, [.slice none 0 0, .slice none 0 0, .slice none 0 0, .int .i64 0, .slice none 0 0, .slice none 0 0]), (28, 6, .slice (some ⟨w.heap.size, 0, none⟩) 1 1, 1, [.slice a0 es.length k0, .slice c1 pu.length l1, .slice (some ⟨g2, 0, none⟩) ds.length k2, .int .i64 (cl + 1), .slice a4 nu.length k4, .slice a5 sa.length k5]), (134, 4, .slice a0 es.length k0, es.length, es.flatMap eCells)]) (C := [(42, 5, .slice (some ⟨g2, 0, none⟩) ds.length k2, ds.length, (tickTo (cl + 1) ds k).flatMap dCells), (3, 1, .slice a4 nu.length k4, nu.length, nu.map (Value.int .i64)), (3, 1, .slice a5 sa.length k5, sa.length, sa.map (Value.int .i64))]) |>.1 (unhide HL)).1
    have hd2 := live_new (A := [(28, 6, .slice (some ⟨w.heap.size + 1, 0, none⟩) 1 1, 1, [.slice none 0 0, .slice none 0 0, .slice none 0 0, .int .i64 0, .slice none 0 0, .slice none 0 0]), (28, 6, .slice (some ⟨w.heap.size, 0, none⟩) 1 1, 1, [.slice a0 es.length k0, .slice c1 pu.length l1, .slice (some ⟨g2, 0, none⟩) ds.length k2, .int .i64 (cl + 1), .slice a4 nu.length k4, .slice a5 sa.length k5]), (134, 4, .slice a0 es.length k0, es.length, es.flatMap eCells)]) (C := [(42, 5, .slice (some ⟨g2, 0, none⟩) ds.length k2, ds.length, (tickTo (cl + 1) ds k).flatMap dCells), (3, 1, .slice a4 nu.length k4, nu.length, nu.map (Value.int .i64)), (3, 1, .slice a5 sa.length k5, sa.length, sa.map (Value.int .i64))]) hd1 hb (owns_mono hoS hB21) (fun k hk => (hoS.lt k hk).1)
    have HL2 := hide hd2
    have HFP2 := hide ho.1
    have HBW2 := hide (belB_then (unhide HBW) hb hB21)
    have hsV : base ≤ V.heap.size := Nat.le_trans hB21 hb.size
    clear HL HFP HBW HQ HQ5 hd1 hd2 hoS ho hb howP hzP h48 hB21
    have HQ := hide (boxRow2 ((unhide HL2).1 (28, 6, .slice (some ⟨w.heap.size, 0, none⟩) 1 1, 1, [.slice a0 es.length k0, .slice c1 pu.length l1, .slice (some ⟨g2, 0, none⟩) ds.length k2, .int .i64 (cl + 1), .slice a4 nu.length k4, .slice a5 sa.length k5]) (by simp)))
    have hdr := (unhide HL2).1 (42, 5, .slice (some ⟨g2, 0, none⟩) ds.length k2, ds.length, (tickTo (cl + 1) ds k).flatMap dCells) (by simp)
    have hne : w.heap.size ≠ g2 := fun e => ((live_pair (A := [(28, 6, .slice (some ⟨w.heap.size + 1, 0, none⟩) 1 1, 1, [.slice none 0 0, .slice none 0 0, .slice none 0 0, .int .i64 0, .slice none 0 0, .slice none 0 0])]) (C := [(134, 4, .slice a0 es.length k0, es.length, es.flatMap eCells), (3, 1, .slice c2 pu.length l2, pu.length, (Tm.monTurn pk x3 x2).map (Value.int .i64)), (42, 5, .slice (some ⟨g2, 0, none⟩) ds.length k2, ds.length, (tickTo (cl + 1) ds k).flatMap dCells), (3, 1, .slice a4 nu.length k4, nu.length, nu.map (Value.int .i64)), (3, 1, .slice a5 sa.length k5, sa.length, sa.map (Value.int .i64))]) |>.1 (unhide HL2)).2.2 (42, 5, .slice (some ⟨g2, 0, none⟩) ds.length k2, ds.length, (tickTo (cl + 1) ds k).flatMap dCells) (by simp)) w.heap.size rfl (by rw [e]; rfl)
    have hdc := deal_cell hdr (tickTo_get (c := cl + 1) (unhide HXX)) (tickTo_len _ _ _)
    have g3 := hdc 3 _ rfl (by decide)
    have g4 := hdc 4 _ rfl (by decide)
    have g3f := hdr.frozenAt (k * 5 + 3)
    have g4f := hdr.frozenAt (k * 5 + 4)
    have hlg := (hdr.lt g2 rfl).1
    clear hdc hdr
    have q0 := (unhide HQ).cell 0 rfl
    have q0f := (unhide HQ).frozen 0 rfl
    have q1 := (unhide HQ).cell 1 rfl
    have q1f := (unhide HQ).frozen 1 rfl
    have q2 := (unhide HQ).cell 2 rfl
    have q2f := (unhide HQ).frozen 2 rfl
    have q3 := (unhide HQ).cell 3 rfl
    have q3f := (unhide HQ).frozen 3 rfl
    have q4 := (unhide HQ).cell 4 rfl
    have q4f := (unhide HQ).frozen 4 rfl
    have q5 := (unhide HQ).cell 5 rfl
    have q5f := (unhide HQ).frozen 5 rfl
    go_wp2_with fail
    (try clear q0 q0f q1 q1f q2 q2f q3 q3f q4 q4f q5 q5f)
    clear g3 g4 g3f g4f
    have hn := live_put (A := [(28, 6, .slice (some ⟨w.heap.size + 1, 0, none⟩) 1 1, 1, [.slice none 0 0, .slice none 0 0, .slice none 0 0, .int .i64 0, .slice none 0 0, .slice none 0 0])]) (C := [(134, 4, .slice a0 es.length k0, es.length, es.flatMap eCells), (3, 1, .slice c2 pu.length l2, pu.length, (Tm.monTurn pk x3 x2).map (Value.int .i64)), (42, 5, .slice (some ⟨g2, 0, none⟩) ds.length k2, ds.length, (tickTo (cl + 1) ds k).flatMap dCells), (3, 1, .slice a4 nu.length k4, nu.length, nu.map (Value.int .i64)), (3, 1, .slice a5 sa.length k5, sa.length, sa.map (Value.int .i64))]) (unhide HL2) 1 (.slice c2 pu.length l2)
    replace hn := live_put (A := [(28, 6, .slice (some ⟨w.heap.size + 1, 0, none⟩) 1 1, 1, [.slice none 0 0, .slice none 0 0, .slice none 0 0, .int .i64 0, .slice none 0 0, .slice none 0 0]), (28, 6, .slice (some ⟨w.heap.size, 0, none⟩) 1 1, 1, [.slice a0 es.length k0, .slice c2 pu.length l2, .slice (some ⟨g2, 0, none⟩) ds.length k2, .int .i64 (cl + 1), .slice a4 nu.length k4, .slice a5 sa.length k5]), (134, 4, .slice a0 es.length k0, es.length, es.flatMap eCells), (3, 1, .slice c2 pu.length l2, pu.length, (Tm.monTurn pk x3 x2).map (Value.int .i64))]) (C := [(3, 1, .slice a4 nu.length k4, nu.length, nu.map (Value.int .i64)), (3, 1, .slice a5 sa.length k5, sa.length, sa.map (Value.int .i64))]) (live_put (A := [(28, 6, .slice (some ⟨w.heap.size + 1, 0, none⟩) 1 1, 1, [.slice none 0 0, .slice none 0 0, .slice none 0 0, .int .i64 0, .slice none 0 0, .slice none 0 0]), (28, 6, .slice (some ⟨w.heap.size, 0, none⟩) 1 1, 1, [.slice a0 es.length k0, .slice c2 pu.length l2, .slice (some ⟨g2, 0, none⟩) ds.length k2, .int .i64 (cl + 1), .slice a4 nu.length k4, .slice a5 sa.length k5]), (134, 4, .slice a0 es.length k0, es.length, es.flatMap eCells), (3, 1, .slice c2 pu.length l2, pu.length, (Tm.monTurn pk x3 x2).map (Value.int .i64))]) (C := [(3, 1, .slice a4 nu.length k4, nu.length, nu.map (Value.int .i64)), (3, 1, .slice a5 sa.length k5, sa.length, sa.map (Value.int .i64))]) hn (k * 5 + 3) (.int .i64 0)) (k * 5 + 4) (.int .i64 0)
    rw [cells34 (tickTo_get (c := cl + 1) (unhide HXX))] at hn
    have htd : tickD (cl + 1) (x0, x1, x2, x3, x4) = (x0, x1, x2, 0, 0) := by unfold tickD; rw [if_pos (unhide HDU)]
    rw [← htd, tickTo_step (unhide HXX)] at hn
    have hpn : Tm.monTurn pk x3 x2 = tickP (cl + 1) pu (ds.take (k + 1)) := by rw [tickP_hit (unhide HXX) (unhide HDU), ← unhide HPK]
    rw [hpn] at hn
    have hfn := unhide HFP2
    rw [hpn] at hfn
    have HN := hide hn
    have HFN2 := hide hfn
    have HBN := hide (belB_put (belB_put (belB_put (unhide HBW2) w.heap.size 1 (.slice c2 pu.length l2) hlB.1 hsV) g2 (k * 5 + 3) (.int .i64 0) hlg (by simp only [World.size_setCell]; exact hsV)) g2 (k * 5 + 4) (.int .i64 0) hlg (by simp only [World.size_setCell]; exact hsV))
    clear hn hfn hpn htd
    go_roundw
    case rel => exact ⟨k + 1, c2, l2, by obtain ⟨m, hm⟩ := unhide HLT; omega, by go_num, unhide HN, unhide HFN2, unhide HBN⟩
    case measure => obtain ⟨m, hm⟩ := unhide HLT; simp [intOf]; omega
end Go.Proofs.Ytmlbphmbffkdnaa
