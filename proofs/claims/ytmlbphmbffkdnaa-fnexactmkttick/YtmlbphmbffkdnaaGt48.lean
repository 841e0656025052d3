/-
  Texts of the proof, what it needs of them: Hmk.
-/
import Derived.Test.YtmlbphmbffkdnaaGt15
namespace Go.Proofs.Ytmlbphmbffkdnaa
open Go.RowKit
set_option linter.unusedVariables false
set_option maxRecDepth 100000

/-- a block that a market's own slices lie in, or none -/
def HBlk (q : HP) (h : House) (row : Option Nat) : Prop := row = none ∨ row = (Value.slice q.a0 h.es.length q.k0).ownBlock ∨ row = (Value.slice q.a1 h.pu.length q.k1).ownBlock ∨ row = (Value.slice q.a2 h.ds.length q.k2).ownBlock ∨ row = (Value.slice q.a4 h.nu.length q.k4).ownBlock ∨ row = (Value.slice q.a5 h.sa.length q.k5).ownBlock
theorem HOwn.blk {w : World} {base : Nat} {q : HP} {h : House} (o : HOwn w base q h) {row : Option Nat} (hr : HBlk q h row) : ∀ b, row = some b → base ≤ b ∧ b < w.heap.size := by
  intro b hb
  rcases hr with e | e | e | e | e | e
  · rw [e] at hb; cases hb
  · exact o.1.2.lt b (e.symm.trans hb)
  · exact o.2.1.2.lt b (e.symm.trans hb)
  · exact o.2.2.1.2.lt b (e.symm.trans hb)
  · exact o.2.2.2.1.2.lt b (e.symm.trans hb)
  · exact o.2.2.2.2.1.2.lt b (e.symm.trans hb)

set_option maxHeartbeats 4000000 in
theorem markHP (P : World → Prop) (h : House) (q : HP) (base : Nat) (w : World) (hs : Small h) (hq : HOwn w base q h) (hP0 : P w) (hPs : ∀ a b row, P a → a.grownBy b row → HBlk q h row → P b) :
    Calls Try.prog 85 #[hV q h, .int .i64 1] w fun e w' => e = .returned (.int .i64 ((hk5 h : Nat) : Int)) ∧ HHld w' base q h ∧ (∀ A : World, A.heap.size ≤ base → Below A.heap.size A w → Below A.heap.size A w') ∧ P w' := by
  have HS := hide hs
  have HG : Hid (P (w.alloc (.cells (hCs q h).toArray 28))) := hPs _ _ none hP0 (World.grownBy_alloc _ _ none) (Or.inl rfl)
  have HX := hide (box_new w (hCs q h) 28 (hCs_one _ _))
  obtain ⟨o0, o1, o2, o4, o5, p01, p02, p04, p05, p12, p14, p15, p24, p25, p45⟩ := hq.bel (below_a (.cells (hCs q h).toArray 28))
  have hl : ∀ v : Value, ∀ n, (∃ s t cs, w.ownsRow base t s v n cs) → some w.heap.size ≠ v.ownBlock ∧ ∀ b, v.ownBlock = some b → base ≤ b := by
    rintro v n ⟨s, t, cs, ho⟩
    refine ⟨fun e => ?_, fun b hb => (ho.lt b hb).1⟩
    have := (ho.lt _ e.symm).2
    omega
  have l0 := hl _ _ ⟨_, _, _, hq.1.2⟩
  have l1 := hl _ _ ⟨_, _, _, hq.2.1.2⟩
  have l2 := hl _ _ ⟨_, _, _, hq.2.2.1.2⟩
  have l4 := hl _ _ ⟨_, _, _, hq.2.2.2.1.2⟩
  have l5 := hl _ _ ⟨_, _, _, hq.2.2.2.2.1.2⟩
  have HA : Hid (∀ A : World, A.heap.size ≤ base → Below A.heap.size A w → Below A.heap.size A (w.alloc (.cells (hCs q h).toArray 28))) := fun A hA hb => below_tr hb (below_a _)
  have HL := hide (show (_ ∧ _ ∧ _ ∧ _ ∧ _) from ⟨l0, l1, l2, l4, l5⟩)
  have HP := hide (show (_ ∧ _ ∧ _ ∧ _ ∧ _ ∧ _ ∧ _ ∧ _ ∧ _ ∧ _) from ⟨p01, p02, p04, p05, p12, p14, p15, p24, p25, p45⟩)
  have O0 := hide o0
  have O1 := hide o1
  have O2 := hide o2
  have O4 := hide o4
  have O5 := hide o5
  clear hs hq hl l0 l1 l2 l4 l5 p01 p02 p04 p05 p12 p14 p15 p24 p25 p45 o0 o1 o2 o4 o5
  go_enter Try.func85, Try.ntmps85
  go_wp2_with fail
  refine (markEg h base _ _ (unhide HS).1 (unhide O0)).mono ?_
  rintro e w1 ⟨rfl, m0, hg⟩
  have HX_1 := hide (box_kpt (unhide HX) hg (unhide HL).1.1)
  have HA_1 : Hid (∀ A : World, A.heap.size ≤ base → Below A.heap.size A w → Below A.heap.size A w1) := fun A hA hb => grown_below (unhide HA A hA hb) hg (fun k hk => Nat.le_trans hA ((unhide HL).1.2 k hk))
  have HG_1 : Hid (P w1) := hPs _ _ _ (unhide HG) hg (Or.inr (Or.inl rfl))
  have O1_1 := hide (Own.kpt (unhide O1) hg (unhide HP).1.symm)
  have O2_1 := hide (DOwn.kpt (unhide O2) hg (unhide HP).2.1.symm)
  have O4_1 := hide (Own.kpt (unhide O4) hg (unhide HP).2.2.1.symm)
  have O5_1 := hide (Own.kpt (unhide O5) hg (unhide HP).2.2.2.1.symm)
  have O0_1 := hide m0
  clear HX HA HG O0 O1 O2 O4 O5 m0 hg
  have x0 := (unhide HX_1).cell 0 rfl
  have x1 := (unhide HX_1).cell 1 rfl
  have x2 := (unhide HX_1).cell 2 rfl
  have x4 := (unhide HX_1).cell 4 rfl
  have x5 := (unhide HX_1).cell 5 rfl
  go_wp2_with fail
  refine (markIg h.pu base (hk1 h) _ _ (unhide HS).2.1 (by have hs := unhide HS; simp only [Small] at hs; simp only [hk1]; omega) (unhide O1_1)).mono ?_
  rintro e w2 ⟨rfl, m1, hg⟩
  rw [show h.pu.length + hk1 h = hk2 h from rfl]
  have HX_2 := hide (box_kpt (unhide HX_1) hg (unhide HL).2.1.1)
  have HA_2 : Hid (∀ A : World, A.heap.size ≤ base → Below A.heap.size A w → Below A.heap.size A w2) := fun A hA hb => grown_below (unhide HA_1 A hA hb) hg (fun k hk => Nat.le_trans hA ((unhide HL).2.1.2 k hk))
  have HG_2 : Hid (P w2) := hPs _ _ _ (unhide HG_1) hg (Or.inr (Or.inr (Or.inl rfl)))
  have O0_2 := hide (ownsK (unhide O0_1) hg (unhide HP).1)
  have O2_2 := hide (DOwn.kpt (unhide O2_1) hg (unhide HP).2.2.2.2.1.symm)
  have O4_2 := hide (Own.kpt (unhide O4_1) hg (unhide HP).2.2.2.2.2.1.symm)
  have O5_2 := hide (Own.kpt (unhide O5_1) hg (unhide HP).2.2.2.2.2.2.1.symm)
  have O1_2 := hide m1
  clear HX_1 HA_1 HG_1 O0_1 O1_1 O2_1 O4_1 O5_1 m1 hg x0 x1 x2 x4 x5
  have x0 := (unhide HX_2).cell 0 rfl
  have x1 := (unhide HX_2).cell 1 rfl
  have x2 := (unhide HX_2).cell 2 rfl
  have x4 := (unhide HX_2).cell 4 rfl
  have x5 := (unhide HX_2).cell 5 rfl
  go_wp2_with fail
  refine (markDg h.ds base (hk2 h) _ _ (unhide HS).2.2.1 (by have hs := unhide HS; simp only [Small] at hs; simp only [hk2, hk1]; omega) (unhide O2_2)).mono ?_
  rintro e w3 ⟨rfl, m2, hg⟩
  rw [show 5 * h.ds.length + hk2 h = hk3 h from rfl]
  have HX_3 := hide (box_kpt (unhide HX_2) hg (unhide HL).2.2.1.1)
  have HA_3 : Hid (∀ A : World, A.heap.size ≤ base → Below A.heap.size A w → Below A.heap.size A w3) := fun A hA hb => grown_below (unhide HA_2 A hA hb) hg (fun k hk => Nat.le_trans hA ((unhide HL).2.2.1.2 k hk))
  have HG_3 : Hid (P w3) := hPs _ _ _ (unhide HG_2) hg (Or.inr (Or.inr (Or.inr (Or.inl rfl))))
  have O0_3 := hide (ownsK (unhide O0_2) hg (unhide HP).2.1)
  have O1_3 := hide (Own.kpt (unhide O1_2) hg (unhide HP).2.2.2.2.1)
  have O4_3 := hide (Own.kpt (unhide O4_2) hg (unhide HP).2.2.2.2.2.2.2.1.symm)
  have O5_3 := hide (Own.kpt (unhide O5_2) hg (unhide HP).2.2.2.2.2.2.2.2.1.symm)
  have O2_3 := hide m2
  clear HX_2 HA_2 HG_2 O0_2 O1_2 O2_2 O4_2 O5_2 m2 hg x0 x1 x2 x4 x5
  have x0 := (unhide HX_3).cell 0 rfl
  have x1 := (unhide HX_3).cell 1 rfl
  have x2 := (unhide HX_3).cell 2 rfl
  have x4 := (unhide HX_3).cell 4 rfl
  have x5 := (unhide HX_3).cell 5 rfl
  go_wp2_with fail
  refine (markIg h.nu base (hk3 h) _ _ (unhide HS).2.2.2.1 (by have hs := unhide HS; simp only [Small] at hs; simp only [hk3, hk2, hk1]; omega) (unhide O4_3)).mono ?_
  rintro e w4 ⟨rfl, m4, hg⟩
  rw [show h.nu.length + hk3 h = hk4 h from rfl]
  have HX_4 := hide (box_kpt (unhide HX_3) hg (unhide HL).2.2.2.1.1)
  have HA_4 : Hid (∀ A : World, A.heap.size ≤ base → Below A.heap.size A w → Below A.heap.size A w4) := fun A hA hb => grown_below (unhide HA_3 A hA hb) hg (fun k hk => Nat.le_trans hA ((unhide HL).2.2.2.1.2 k hk))
  have HG_4 : Hid (P w4) := hPs _ _ _ (unhide HG_3) hg (Or.inr (Or.inr (Or.inr (Or.inr (Or.inl rfl)))))
  have O0_4 := hide (ownsK (unhide O0_3) hg (unhide HP).2.2.1)
  have O1_4 := hide (Own.kpt (unhide O1_3) hg (unhide HP).2.2.2.2.2.1)
  have O2_4 := hide (ownsK (unhide O2_3) hg (unhide HP).2.2.2.2.2.2.2.1)
  have O5_4 := hide (Own.kpt (unhide O5_3) hg (unhide HP).2.2.2.2.2.2.2.2.2.symm)
  have O4_4 := hide m4
  clear HX_3 HA_3 HG_3 O0_3 O1_3 O2_3 O4_3 O5_3 m4 hg x0 x1 x2 x4 x5
  have x0 := (unhide HX_4).cell 0 rfl
  have x1 := (unhide HX_4).cell 1 rfl
  have x2 := (unhide HX_4).cell 2 rfl
  have x4 := (unhide HX_4).cell 4 rfl
  have x5 := (unhide HX_4).cell 5 rfl
  go_wp2_with fail
  refine (markIg h.sa base (hk4 h) _ _ (unhide HS).2.2.2.2 (by have hs := unhide HS; simp only [Small] at hs; simp only [hk4, hk3, hk2, hk1]; omega) (unhide O5_4)).mono ?_
  rintro e w5 ⟨rfl, m5, hg⟩
  rw [show h.sa.length + hk4 h = hk5 h from rfl]
  have HX_5 := hide (box_kpt (unhide HX_4) hg (unhide HL).2.2.2.2.1)
  have HA_5 : Hid (∀ A : World, A.heap.size ≤ base → Below A.heap.size A w → Below A.heap.size A w5) := fun A hA hb => grown_below (unhide HA_4 A hA hb) hg (fun k hk => Nat.le_trans hA ((unhide HL).2.2.2.2.2 k hk))
  have HG_5 : Hid (P w5) := hPs _ _ _ (unhide HG_4) hg (Or.inr (Or.inr (Or.inr (Or.inr (Or.inr rfl)))))
  have O0_5 := hide (ownsK (unhide O0_4) hg (unhide HP).2.2.2.1)
  have O1_5 := hide (Own.kpt (unhide O1_4) hg (unhide HP).2.2.2.2.2.2.1)
  have O2_5 := hide (ownsK (unhide O2_4) hg (unhide HP).2.2.2.2.2.2.2.2.1)
  have O4_5 := hide (Own.kpt (unhide O4_4) hg (unhide HP).2.2.2.2.2.2.2.2.2)
  have O5_5 := hide m5
  clear HX_4 HA_4 HG_4 O0_4 O1_4 O2_4 O4_4 O5_4 m5 hg x0 x1 x2 x4 x5
  go_wp2_with fail
  go_ret
  exact ⟨rfl, ⟨unhide O0_5, unhide O1_5, unhide O2_5, unhide O4_5, unhide O5_5⟩, unhide HA_5, unhide HG_5⟩
end Go.Proofs.Ytmlbphmbffkdnaa
