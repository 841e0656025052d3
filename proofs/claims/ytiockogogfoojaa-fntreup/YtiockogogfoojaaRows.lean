/-
  No cell of these rows narrows 'for every input' (looked for: loops, veiled, ifaces, maps, wideKeys, modest, calm, conditions, laid).
  DERIVED. THE GIVEN ROWS OF THIS SEAT. 20 by the template 'for every input the law returns true; each argument reads behind the call as it read before'; 0 by the template 'total and deterministic' (their statements: YtiockogogfoojaaTotals.lean).
  GIVEN WITH THE SEED: the statements are not yours to turn. If you find one false, say at which input.
  Laid BY PROGRAM, IN A SANDBOX (cutbox-rows.mjs): the forced cells as the released guide's own fill.sh prints them over the translation 2c4924f95d22d447… (all of the seat's roots in one cut). By AI agents, Wed Nov 11 2026. No macro, syntax, notation, axiom, sorry.
-/
import Derived.Test.YtiockogogfoojaaChecked
import GoSem.Claim
import GoSem.ClaimJoined
import GoSem.ClaimMapViews
import Derived.JoinedTies
import Derived.KernelRfl
namespace Go.Proofs.Ytiockogogfoojaa
/- THE CELL 'sum', in the pinned program and in every row, IS THE sha256 OF THE DUMP (.gsa) THAT YtiockogogfoojaaProg.lean LOADS. Nothing in Lean hashes anything: it is a label: what it is worth is what the hold of that sum in a sandbox is worth. -/
noncomputable def Try.pinned : Pinned := { name := "ytiockogogfoojaa", sum := "2c4924f95d22d4477e5165cd2ba5c7c58a4cc6a519d1273539dd6129b17c0ca6", checked := Try.checked }
namespace Rows
def none {H : Type} : Left H := { results := [], args := [] }

/-- 'laws.FnMixPair': WHATEVER THE INPUT: true; the input reads as it did. -/
def fnMixPairSpec : ChangeSpec := { name := "fnMixPair", fn := fun _ => fun
  | [d1, d2] => { results := [.lit (.bool true)], args := [d1, d2] }
  | _ => none }
def fnMixPairRow : OpenClaim := { program := "ytiockogogfoojaa", sum := "2c4924f95d22d4477e5165cd2ba5c7c58a4cc6a519d1273539dd6129b17c0ca6", func := "loop.example/stileway/laws.FnMixPair", spec := "fnMixPair", apart := false }
def FnMixPairSaid : Prop := fnMixPairRow.holds Try.pinned (OpenSpec.ofChange fnMixPairSpec)

/-- ITS FALSE NEIGHBOUR: 'it returns false'. Refute it at one input. -/
def fnMixPairWrong : ChangeSpec := { name := "fnMixPair", fn := fun _ => fun
  | [d1, d2] => { results := [.lit (.bool false)], args := [d1, d2] }
  | _ => none }
def FnMixPairWrongFalsely : Prop := fnMixPairRow.holds Try.pinned (OpenSpec.ofChange fnMixPairWrong)

/-- 'laws.FnMixLeaf': WHATEVER THE INPUT: true; the input reads as it did. -/
def fnMixLeafSpec : ChangeSpec := { name := "fnMixLeaf", fn := fun _ => fun
  | [d] => { results := [.lit (.bool true)], args := [d] }
  | _ => none }
def fnMixLeafRow : OpenClaim := { program := "ytiockogogfoojaa", sum := "2c4924f95d22d4477e5165cd2ba5c7c58a4cc6a519d1273539dd6129b17c0ca6", func := "loop.example/stileway/laws.FnMixLeaf", spec := "fnMixLeaf", apart := false }
def FnMixLeafSaid : Prop := fnMixLeafRow.holds Try.pinned (OpenSpec.ofChange fnMixLeafSpec)

/-- ITS FALSE NEIGHBOUR: 'it returns false'. Refute it at one input. -/
def fnMixLeafWrong : ChangeSpec := { name := "fnMixLeaf", fn := fun _ => fun
  | [d] => { results := [.lit (.bool false)], args := [d] }
  | _ => none }
def FnMixLeafWrongFalsely : Prop := fnMixLeafRow.holds Try.pinned (OpenSpec.ofChange fnMixLeafWrong)

/-- 'laws.FnTreOk': WHATEVER THE INPUT: true; the input reads as it did. -/
def fnTreOkSpec : ChangeSpec := { name := "fnTreOk", fn := fun _ => fun
  | [d] => { results := [.lit (.bool true)], args := [d] }
  | _ => none }
def fnTreOkRow : OpenClaim := { program := "ytiockogogfoojaa", sum := "2c4924f95d22d4477e5165cd2ba5c7c58a4cc6a519d1273539dd6129b17c0ca6", func := "loop.example/stileway/laws.FnTreOk", spec := "fnTreOk", apart := false }
def FnTreOkSaid : Prop := fnTreOkRow.holds Try.pinned (OpenSpec.ofChange fnTreOkSpec)

/-- ITS FALSE NEIGHBOUR: 'it returns false'. Refute it at one input. -/
def fnTreOkWrong : ChangeSpec := { name := "fnTreOk", fn := fun _ => fun
  | [d] => { results := [.lit (.bool false)], args := [d] }
  | _ => none }
def FnTreOkWrongFalsely : Prop := fnTreOkRow.holds Try.pinned (OpenSpec.ofChange fnTreOkWrong)

/-- 'laws.FnTreSplit': WHATEVER THE INPUT: true; the input reads as it did. -/
def fnTreSplitSpec : ChangeSpec := { name := "fnTreSplit", fn := fun _ => fun
  | [d] => { results := [.lit (.bool true)], args := [d] }
  | _ => none }
def fnTreSplitRow : OpenClaim := { program := "ytiockogogfoojaa", sum := "2c4924f95d22d4477e5165cd2ba5c7c58a4cc6a519d1273539dd6129b17c0ca6", func := "loop.example/stileway/laws.FnTreSplit", spec := "fnTreSplit", apart := false }
def FnTreSplitSaid : Prop := fnTreSplitRow.holds Try.pinned (OpenSpec.ofChange fnTreSplitSpec)

/-- ITS FALSE NEIGHBOUR: 'it returns false'. Refute it at one input. -/
def fnTreSplitWrong : ChangeSpec := { name := "fnTreSplit", fn := fun _ => fun
  | [d] => { results := [.lit (.bool false)], args := [d] }
  | _ => none }
def FnTreSplitWrongFalsely : Prop := fnTreSplitRow.holds Try.pinned (OpenSpec.ofChange fnTreSplitWrong)

/-- 'laws.FnTreRoot': WHATEVER THE INPUT: true; the input reads as it did. -/
def fnTreRootSpec : ChangeSpec := { name := "fnTreRoot", fn := fun _ => fun
  | [d] => { results := [.lit (.bool true)], args := [d] }
  | _ => none }
def fnTreRootRow : OpenClaim := { program := "ytiockogogfoojaa", sum := "2c4924f95d22d4477e5165cd2ba5c7c58a4cc6a519d1273539dd6129b17c0ca6", func := "loop.example/stileway/laws.FnTreRoot", spec := "fnTreRoot", recurses := true, apart := false }
def FnTreRootSaid : Prop := fnTreRootRow.holds Try.pinned (OpenSpec.ofChange fnTreRootSpec)

/-- ITS FALSE NEIGHBOUR: 'it returns false'. Refute it at one input. -/
def fnTreRootWrong : ChangeSpec := { name := "fnTreRoot", fn := fun _ => fun
  | [d] => { results := [.lit (.bool false)], args := [d] }
  | _ => none }
def FnTreRootWrongFalsely : Prop := fnTreRootRow.holds Try.pinned (OpenSpec.ofChange fnTreRootWrong)

/-- 'laws.FnTreProof': WHATEVER THE INPUT: true; the input reads as it did. -/
def fnTreProofSpec : ChangeSpec := { name := "fnTreProof", fn := fun _ => fun
  | [d] => { results := [.lit (.bool true)], args := [d] }
  | _ => none }
def fnTreProofRow : OpenClaim := { program := "ytiockogogfoojaa", sum := "2c4924f95d22d4477e5165cd2ba5c7c58a4cc6a519d1273539dd6129b17c0ca6", func := "loop.example/stileway/laws.FnTreProof", spec := "fnTreProof", unfollowed := true, recurses := true, apart := false }
def FnTreProofSaid : Prop := fnTreProofRow.holds Try.pinned (OpenSpec.ofChange fnTreProofSpec)

/-- ITS FALSE NEIGHBOUR: 'it returns false'. Refute it at one input. -/
def fnTreProofWrong : ChangeSpec := { name := "fnTreProof", fn := fun _ => fun
  | [d] => { results := [.lit (.bool false)], args := [d] }
  | _ => none }
def FnTreProofWrongFalsely : Prop := fnTreProofRow.holds Try.pinned (OpenSpec.ofChange fnTreProofWrong)

/-- 'laws.FnTreCheck': WHATEVER THE INPUT: true; the input reads as it did. -/
def fnTreCheckSpec : ChangeSpec := { name := "fnTreCheck", fn := fun _ => fun
  | [d] => { results := [.lit (.bool true)], args := [d] }
  | _ => none }
def fnTreCheckRow : OpenClaim := { program := "ytiockogogfoojaa", sum := "2c4924f95d22d4477e5165cd2ba5c7c58a4cc6a519d1273539dd6129b17c0ca6", func := "loop.example/stileway/laws.FnTreCheck", spec := "fnTreCheck", recurses := true, apart := false }
def FnTreCheckSaid : Prop := fnTreCheckRow.holds Try.pinned (OpenSpec.ofChange fnTreCheckSpec)

/-- ITS FALSE NEIGHBOUR: 'it returns false'. Refute it at one input. -/
def fnTreCheckWrong : ChangeSpec := { name := "fnTreCheck", fn := fun _ => fun
  | [d] => { results := [.lit (.bool false)], args := [d] }
  | _ => none }
def FnTreCheckWrongFalsely : Prop := fnTreCheckRow.holds Try.pinned (OpenSpec.ofChange fnTreCheckWrong)

/-- 'laws.FnTreUp': WHATEVER THE INPUT: true; the input reads as it did. -/
def fnTreUpSpec : ChangeSpec := { name := "fnTreUp", fn := fun _ => fun
  | [d] => { results := [.lit (.bool true)], args := [d] }
  | _ => none }
def fnTreUpRow : OpenClaim := { program := "ytiockogogfoojaa", sum := "2c4924f95d22d4477e5165cd2ba5c7c58a4cc6a519d1273539dd6129b17c0ca6", func := "loop.example/stileway/laws.FnTreUp", spec := "fnTreUp", recurses := true, apart := false }
def FnTreUpSaid : Prop := fnTreUpRow.holds Try.pinned (OpenSpec.ofChange fnTreUpSpec)

/-- ITS FALSE NEIGHBOUR: 'it returns false'. Refute it at one input. -/
def fnTreUpWrong : ChangeSpec := { name := "fnTreUp", fn := fun _ => fun
  | [d] => { results := [.lit (.bool false)], args := [d] }
  | _ => none }
def FnTreUpWrongFalsely : Prop := fnTreUpRow.holds Try.pinned (OpenSpec.ofChange fnTreUpWrong)

/-- 'laws.FnTreClash': WHATEVER THE INPUT: true; the input reads as it did. -/
def fnTreClashSpec : ChangeSpec := { name := "fnTreClash", fn := fun _ => fun
  | [d] => { results := [.lit (.bool true)], args := [d] }
  | _ => none }
def fnTreClashRow : OpenClaim := { program := "ytiockogogfoojaa", sum := "2c4924f95d22d4477e5165cd2ba5c7c58a4cc6a519d1273539dd6129b17c0ca6", func := "loop.example/stileway/laws.FnTreClash", spec := "fnTreClash", recurses := true, apart := false }
def FnTreClashSaid : Prop := fnTreClashRow.holds Try.pinned (OpenSpec.ofChange fnTreClashSpec)

/-- ITS FALSE NEIGHBOUR: 'it returns false'. Refute it at one input. -/
def fnTreClashWrong : ChangeSpec := { name := "fnTreClash", fn := fun _ => fun
  | [d] => { results := [.lit (.bool false)], args := [d] }
  | _ => none }
def FnTreClashWrongFalsely : Prop := fnTreClashRow.holds Try.pinned (OpenSpec.ofChange fnTreClashWrong)

/-- 'laws.FnTreOther': WHATEVER THE INPUT: true; the input reads as it did. -/
def fnTreOtherSpec : ChangeSpec := { name := "fnTreOther", fn := fun _ => fun
  | [d] => { results := [.lit (.bool true)], args := [d] }
  | _ => none }
def fnTreOtherRow : OpenClaim := { program := "ytiockogogfoojaa", sum := "2c4924f95d22d4477e5165cd2ba5c7c58a4cc6a519d1273539dd6129b17c0ca6", func := "loop.example/stileway/laws.FnTreOther", spec := "fnTreOther", unfollowed := true, recurses := true, apart := false }
def FnTreOtherSaid : Prop := fnTreOtherRow.holds Try.pinned (OpenSpec.ofChange fnTreOtherSpec)

/-- ITS FALSE NEIGHBOUR: 'it returns false'. Refute it at one input. -/
def fnTreOtherWrong : ChangeSpec := { name := "fnTreOther", fn := fun _ => fun
  | [d] => { results := [.lit (.bool false)], args := [d] }
  | _ => none }
def FnTreOtherWrongFalsely : Prop := fnTreOtherRow.holds Try.pinned (OpenSpec.ofChange fnTreOtherWrong)

/-- 'laws.FnExactMixOk': WHATEVER THE INPUT: true; the input reads as it did. -/
def fnExactMixOkSpec : ChangeSpec := { name := "fnExactMixOk", fn := fun _ => fun
  | [d] => { results := [.lit (.bool true)], args := [d] }
  | _ => none }
def fnExactMixOkRow : OpenClaim := { program := "ytiockogogfoojaa", sum := "2c4924f95d22d4477e5165cd2ba5c7c58a4cc6a519d1273539dd6129b17c0ca6", func := "loop.example/stileway/laws.FnExactMixOk", spec := "fnExactMixOk", apart := false }
def FnExactMixOkSaid : Prop := fnExactMixOkRow.holds Try.pinned (OpenSpec.ofChange fnExactMixOkSpec)

/-- ITS FALSE NEIGHBOUR: 'it returns false'. Refute it at one input. -/
def fnExactMixOkWrong : ChangeSpec := { name := "fnExactMixOk", fn := fun _ => fun
  | [d] => { results := [.lit (.bool false)], args := [d] }
  | _ => none }
def FnExactMixOkWrongFalsely : Prop := fnExactMixOkRow.holds Try.pinned (OpenSpec.ofChange fnExactMixOkWrong)

/-- 'laws.FnExactMixPair': WHATEVER THE INPUT: true; the input reads as it did. -/
def fnExactMixPairSpec : ChangeSpec := { name := "fnExactMixPair", fn := fun _ => fun
  | [d1, d2] => { results := [.lit (.bool true)], args := [d1, d2] }
  | _ => none }
def fnExactMixPairRow : OpenClaim := { program := "ytiockogogfoojaa", sum := "2c4924f95d22d4477e5165cd2ba5c7c58a4cc6a519d1273539dd6129b17c0ca6", func := "loop.example/stileway/laws.FnExactMixPair", spec := "fnExactMixPair", apart := false }
def FnExactMixPairSaid : Prop := fnExactMixPairRow.holds Try.pinned (OpenSpec.ofChange fnExactMixPairSpec)

/-- ITS FALSE NEIGHBOUR: 'it returns false'. Refute it at one input. -/
def fnExactMixPairWrong : ChangeSpec := { name := "fnExactMixPair", fn := fun _ => fun
  | [d1, d2] => { results := [.lit (.bool false)], args := [d1, d2] }
  | _ => none }
def FnExactMixPairWrongFalsely : Prop := fnExactMixPairRow.holds Try.pinned (OpenSpec.ofChange fnExactMixPairWrong)

/-- 'laws.FnExactMixLeaf': WHATEVER THE INPUT: true; the input reads as it did. -/
def fnExactMixLeafSpec : ChangeSpec := { name := "fnExactMixLeaf", fn := fun _ => fun
  | [d] => { results := [.lit (.bool true)], args := [d] }
  | _ => none }
def fnExactMixLeafRow : OpenClaim := { program := "ytiockogogfoojaa", sum := "2c4924f95d22d4477e5165cd2ba5c7c58a4cc6a519d1273539dd6129b17c0ca6", func := "loop.example/stileway/laws.FnExactMixLeaf", spec := "fnExactMixLeaf", apart := false }
def FnExactMixLeafSaid : Prop := fnExactMixLeafRow.holds Try.pinned (OpenSpec.ofChange fnExactMixLeafSpec)

/-- ITS FALSE NEIGHBOUR: 'it returns false'. Refute it at one input. -/
def fnExactMixLeafWrong : ChangeSpec := { name := "fnExactMixLeaf", fn := fun _ => fun
  | [d] => { results := [.lit (.bool false)], args := [d] }
  | _ => none }
def FnExactMixLeafWrongFalsely : Prop := fnExactMixLeafRow.holds Try.pinned (OpenSpec.ofChange fnExactMixLeafWrong)

/-- 'laws.FnExactTreOk': WHATEVER THE INPUT: true; the input reads as it did. -/
def fnExactTreOkSpec : ChangeSpec := { name := "fnExactTreOk", fn := fun _ => fun
  | [d] => { results := [.lit (.bool true)], args := [d] }
  | _ => none }
def fnExactTreOkRow : OpenClaim := { program := "ytiockogogfoojaa", sum := "2c4924f95d22d4477e5165cd2ba5c7c58a4cc6a519d1273539dd6129b17c0ca6", func := "loop.example/stileway/laws.FnExactTreOk", spec := "fnExactTreOk", apart := false }
def FnExactTreOkSaid : Prop := fnExactTreOkRow.holds Try.pinned (OpenSpec.ofChange fnExactTreOkSpec)

/-- ITS FALSE NEIGHBOUR: 'it returns false'. Refute it at one input. -/
def fnExactTreOkWrong : ChangeSpec := { name := "fnExactTreOk", fn := fun _ => fun
  | [d] => { results := [.lit (.bool false)], args := [d] }
  | _ => none }
def FnExactTreOkWrongFalsely : Prop := fnExactTreOkRow.holds Try.pinned (OpenSpec.ofChange fnExactTreOkWrong)

/-- 'laws.FnExactTreSplit': WHATEVER THE INPUT: true; the input reads as it did. -/
def fnExactTreSplitSpec : ChangeSpec := { name := "fnExactTreSplit", fn := fun _ => fun
  | [d] => { results := [.lit (.bool true)], args := [d] }
  | _ => none }
def fnExactTreSplitRow : OpenClaim := { program := "ytiockogogfoojaa", sum := "2c4924f95d22d4477e5165cd2ba5c7c58a4cc6a519d1273539dd6129b17c0ca6", func := "loop.example/stileway/laws.FnExactTreSplit", spec := "fnExactTreSplit", apart := false }
def FnExactTreSplitSaid : Prop := fnExactTreSplitRow.holds Try.pinned (OpenSpec.ofChange fnExactTreSplitSpec)

/-- ITS FALSE NEIGHBOUR: 'it returns false'. Refute it at one input. -/
def fnExactTreSplitWrong : ChangeSpec := { name := "fnExactTreSplit", fn := fun _ => fun
  | [d] => { results := [.lit (.bool false)], args := [d] }
  | _ => none }
def FnExactTreSplitWrongFalsely : Prop := fnExactTreSplitRow.holds Try.pinned (OpenSpec.ofChange fnExactTreSplitWrong)

/-- 'laws.FnExactTreRoot': WHATEVER THE INPUT: true; the input reads as it did. -/
def fnExactTreRootSpec : ChangeSpec := { name := "fnExactTreRoot", fn := fun _ => fun
  | [d] => { results := [.lit (.bool true)], args := [d] }
  | _ => none }
def fnExactTreRootRow : OpenClaim := { program := "ytiockogogfoojaa", sum := "2c4924f95d22d4477e5165cd2ba5c7c58a4cc6a519d1273539dd6129b17c0ca6", func := "loop.example/stileway/laws.FnExactTreRoot", spec := "fnExactTreRoot", recurses := true, apart := false }
def FnExactTreRootSaid : Prop := fnExactTreRootRow.holds Try.pinned (OpenSpec.ofChange fnExactTreRootSpec)

/-- ITS FALSE NEIGHBOUR: 'it returns false'. Refute it at one input. -/
def fnExactTreRootWrong : ChangeSpec := { name := "fnExactTreRoot", fn := fun _ => fun
  | [d] => { results := [.lit (.bool false)], args := [d] }
  | _ => none }
def FnExactTreRootWrongFalsely : Prop := fnExactTreRootRow.holds Try.pinned (OpenSpec.ofChange fnExactTreRootWrong)

/-- 'laws.FnExactTreProof': WHATEVER THE INPUT: true; the input reads as it did. -/
def fnExactTreProofSpec : ChangeSpec := { name := "fnExactTreProof", fn := fun _ => fun
  | [d1, d2] => { results := [.lit (.bool true)], args := [d1, d2] }
  | _ => none }
def fnExactTreProofRow : OpenClaim := { program := "ytiockogogfoojaa", sum := "2c4924f95d22d4477e5165cd2ba5c7c58a4cc6a519d1273539dd6129b17c0ca6", func := "loop.example/stileway/laws.FnExactTreProof", spec := "fnExactTreProof", unfollowed := true, recurses := true, apart := false }
def FnExactTreProofSaid : Prop := fnExactTreProofRow.holds Try.pinned (OpenSpec.ofChange fnExactTreProofSpec)

/-- ITS FALSE NEIGHBOUR: 'it returns false'. Refute it at one input. -/
def fnExactTreProofWrong : ChangeSpec := { name := "fnExactTreProof", fn := fun _ => fun
  | [d1, d2] => { results := [.lit (.bool false)], args := [d1, d2] }
  | _ => none }
def FnExactTreProofWrongFalsely : Prop := fnExactTreProofRow.holds Try.pinned (OpenSpec.ofChange fnExactTreProofWrong)

/-- 'laws.FnExactTreUp': WHATEVER THE INPUT: true; the input reads as it did. -/
def fnExactTreUpSpec : ChangeSpec := { name := "fnExactTreUp", fn := fun _ => fun
  | [d1, d2, d3, d4] => { results := [.lit (.bool true)], args := [d1, d2, d3, d4] }
  | _ => none }
def fnExactTreUpRow : OpenClaim := { program := "ytiockogogfoojaa", sum := "2c4924f95d22d4477e5165cd2ba5c7c58a4cc6a519d1273539dd6129b17c0ca6", func := "loop.example/stileway/laws.FnExactTreUp", spec := "fnExactTreUp", recurses := true, apart := false }
def FnExactTreUpSaid : Prop := fnExactTreUpRow.holds Try.pinned (OpenSpec.ofChange fnExactTreUpSpec)

/-- ITS FALSE NEIGHBOUR: 'it returns false'. Refute it at one input. -/
def fnExactTreUpWrong : ChangeSpec := { name := "fnExactTreUp", fn := fun _ => fun
  | [d1, d2, d3, d4] => { results := [.lit (.bool false)], args := [d1, d2, d3, d4] }
  | _ => none }
def FnExactTreUpWrongFalsely : Prop := fnExactTreUpRow.holds Try.pinned (OpenSpec.ofChange fnExactTreUpWrong)

/-- 'laws.FnExactTreCheck': WHATEVER THE INPUT: true; the input reads as it did. -/
def fnExactTreCheckSpec : ChangeSpec := { name := "fnExactTreCheck", fn := fun _ => fun
  | [d1, d2, d3, d4, d5] => { results := [.lit (.bool true)], args := [d1, d2, d3, d4, d5] }
  | _ => none }
def fnExactTreCheckRow : OpenClaim := { program := "ytiockogogfoojaa", sum := "2c4924f95d22d4477e5165cd2ba5c7c58a4cc6a519d1273539dd6129b17c0ca6", func := "loop.example/stileway/laws.FnExactTreCheck", spec := "fnExactTreCheck", recurses := true, apart := false }
def FnExactTreCheckSaid : Prop := fnExactTreCheckRow.holds Try.pinned (OpenSpec.ofChange fnExactTreCheckSpec)

/-- ITS FALSE NEIGHBOUR: 'it returns false'. Refute it at one input. -/
def fnExactTreCheckWrong : ChangeSpec := { name := "fnExactTreCheck", fn := fun _ => fun
  | [d1, d2, d3, d4, d5] => { results := [.lit (.bool false)], args := [d1, d2, d3, d4, d5] }
  | _ => none }
def FnExactTreCheckWrongFalsely : Prop := fnExactTreCheckRow.holds Try.pinned (OpenSpec.ofChange fnExactTreCheckWrong)

/-- 'laws.FnExactTreClash': WHATEVER THE INPUT: true; the input reads as it did. -/
def fnExactTreClashSpec : ChangeSpec := { name := "fnExactTreClash", fn := fun _ => fun
  | [d1, d2, d3, d4] => { results := [.lit (.bool true)], args := [d1, d2, d3, d4] }
  | _ => none }
def fnExactTreClashRow : OpenClaim := { program := "ytiockogogfoojaa", sum := "2c4924f95d22d4477e5165cd2ba5c7c58a4cc6a519d1273539dd6129b17c0ca6", func := "loop.example/stileway/laws.FnExactTreClash", spec := "fnExactTreClash", recurses := true, apart := false }
def FnExactTreClashSaid : Prop := fnExactTreClashRow.holds Try.pinned (OpenSpec.ofChange fnExactTreClashSpec)

/-- ITS FALSE NEIGHBOUR: 'it returns false'. Refute it at one input. -/
def fnExactTreClashWrong : ChangeSpec := { name := "fnExactTreClash", fn := fun _ => fun
  | [d1, d2, d3, d4] => { results := [.lit (.bool false)], args := [d1, d2, d3, d4] }
  | _ => none }
def FnExactTreClashWrongFalsely : Prop := fnExactTreClashRow.holds Try.pinned (OpenSpec.ofChange fnExactTreClashWrong)

/- THE SECOND FORM. 'bulk': how many values and letters a reading holds, each counted each time it is reached (what is shared counts as often as it is met; a slice's spare places count too). A statement '..UptoSaid' is the law's where the arguments, and the package variables that the reading takes, are together of bulk at most 1048576: NARROWER than '..Said'. Prove '..Said' where nothing that the law and all that it calls make is longer than what came in: it says more and counts as full. Else prove '..UptoSaid'. A law counts once. -/
mutual
def uptoBulk {H : Type} : DataW H → Nat
  | .lit (.string bytes) => bytes.length + 1
  | .lit _ => 1
  | .nil => 1
  | .ptr d => uptoBulk d + 1
  | .slice elems spare => uptoBulkAll elems + uptoBulkAll spare + 1
  | .agg parts => uptoBulkAll parts + 1
  | .iface _ d => uptoBulk d + 1
  | .map entries => uptoBulkEntries entries + 1
  | .held _ => 1
def uptoBulkAll {H : Type} : List (DataW H) → Nat
  | [] => 0
  | d :: r => uptoBulk d + uptoBulkAll r
def uptoBulkEntries {H : Type} : List (Lit × DataW H) → Nat
  | [] => 0
  | x :: r => uptoBulkEntry x + uptoBulkEntries r
def uptoBulkEntry {H : Type} : Lit × DataW H → Nat
  | (.string bytes, d) => bytes.length + uptoBulk d + 1
  | (_, d) => uptoBulk d + 1
 end
def uptoSmall : (H : Type) → List (DataW H) → Bool := fun _ ds => decide (uptoBulkAll ds ≤ 1048576)
def OpenSpec.upto (s : _root_.Go.ChangeSpec) : _root_.Go.OpenSpec := { _root_.Go.OpenSpec.ofChange s with cond := some uptoSmall }

/-- 'laws.FnMixPair', WHERE WHAT IT READS IS OF BULK AT MOST 1048576: true; the input reads as it did. -/
def fnMixPairUptoRow : OpenClaim := { program := "ytiockogogfoojaa", sum := "2c4924f95d22d4477e5165cd2ba5c7c58a4cc6a519d1273539dd6129b17c0ca6", func := "loop.example/stileway/laws.FnMixPair", spec := "fnMixPair", apart := false, narrowed := true }
def FnMixPairUptoSaid : Prop := fnMixPairUptoRow.holds Try.pinned (OpenSpec.upto fnMixPairSpec)

/-- 'laws.FnMixLeaf', WHERE WHAT IT READS IS OF BULK AT MOST 1048576: true; the input reads as it did. -/
def fnMixLeafUptoRow : OpenClaim := { program := "ytiockogogfoojaa", sum := "2c4924f95d22d4477e5165cd2ba5c7c58a4cc6a519d1273539dd6129b17c0ca6", func := "loop.example/stileway/laws.FnMixLeaf", spec := "fnMixLeaf", apart := false, narrowed := true }
def FnMixLeafUptoSaid : Prop := fnMixLeafUptoRow.holds Try.pinned (OpenSpec.upto fnMixLeafSpec)

/-- 'laws.FnTreOk', WHERE WHAT IT READS IS OF BULK AT MOST 1048576: true; the input reads as it did. -/
def fnTreOkUptoRow : OpenClaim := { program := "ytiockogogfoojaa", sum := "2c4924f95d22d4477e5165cd2ba5c7c58a4cc6a519d1273539dd6129b17c0ca6", func := "loop.example/stileway/laws.FnTreOk", spec := "fnTreOk", apart := false, narrowed := true }
def FnTreOkUptoSaid : Prop := fnTreOkUptoRow.holds Try.pinned (OpenSpec.upto fnTreOkSpec)

/-- 'laws.FnTreSplit', WHERE WHAT IT READS IS OF BULK AT MOST 1048576: true; the input reads as it did. -/
def fnTreSplitUptoRow : OpenClaim := { program := "ytiockogogfoojaa", sum := "2c4924f95d22d4477e5165cd2ba5c7c58a4cc6a519d1273539dd6129b17c0ca6", func := "loop.example/stileway/laws.FnTreSplit", spec := "fnTreSplit", apart := false, narrowed := true }
def FnTreSplitUptoSaid : Prop := fnTreSplitUptoRow.holds Try.pinned (OpenSpec.upto fnTreSplitSpec)

/-- 'laws.FnTreRoot', WHERE WHAT IT READS IS OF BULK AT MOST 1048576: true; the input reads as it did. -/
def fnTreRootUptoRow : OpenClaim := { program := "ytiockogogfoojaa", sum := "2c4924f95d22d4477e5165cd2ba5c7c58a4cc6a519d1273539dd6129b17c0ca6", func := "loop.example/stileway/laws.FnTreRoot", spec := "fnTreRoot", recurses := true, apart := false, narrowed := true }
def FnTreRootUptoSaid : Prop := fnTreRootUptoRow.holds Try.pinned (OpenSpec.upto fnTreRootSpec)

/-- 'laws.FnTreProof', WHERE WHAT IT READS IS OF BULK AT MOST 1048576: true; the input reads as it did. -/
def fnTreProofUptoRow : OpenClaim := { program := "ytiockogogfoojaa", sum := "2c4924f95d22d4477e5165cd2ba5c7c58a4cc6a519d1273539dd6129b17c0ca6", func := "loop.example/stileway/laws.FnTreProof", spec := "fnTreProof", unfollowed := true, recurses := true, apart := false, narrowed := true }
def FnTreProofUptoSaid : Prop := fnTreProofUptoRow.holds Try.pinned (OpenSpec.upto fnTreProofSpec)

/-- 'laws.FnTreCheck', WHERE WHAT IT READS IS OF BULK AT MOST 1048576: true; the input reads as it did. -/
def fnTreCheckUptoRow : OpenClaim := { program := "ytiockogogfoojaa", sum := "2c4924f95d22d4477e5165cd2ba5c7c58a4cc6a519d1273539dd6129b17c0ca6", func := "loop.example/stileway/laws.FnTreCheck", spec := "fnTreCheck", recurses := true, apart := false, narrowed := true }
def FnTreCheckUptoSaid : Prop := fnTreCheckUptoRow.holds Try.pinned (OpenSpec.upto fnTreCheckSpec)

/-- 'laws.FnTreUp', WHERE WHAT IT READS IS OF BULK AT MOST 1048576: true; the input reads as it did. -/
def fnTreUpUptoRow : OpenClaim := { program := "ytiockogogfoojaa", sum := "2c4924f95d22d4477e5165cd2ba5c7c58a4cc6a519d1273539dd6129b17c0ca6", func := "loop.example/stileway/laws.FnTreUp", spec := "fnTreUp", recurses := true, apart := false, narrowed := true }
def FnTreUpUptoSaid : Prop := fnTreUpUptoRow.holds Try.pinned (OpenSpec.upto fnTreUpSpec)

/-- 'laws.FnTreClash', WHERE WHAT IT READS IS OF BULK AT MOST 1048576: true; the input reads as it did. -/
def fnTreClashUptoRow : OpenClaim := { program := "ytiockogogfoojaa", sum := "2c4924f95d22d4477e5165cd2ba5c7c58a4cc6a519d1273539dd6129b17c0ca6", func := "loop.example/stileway/laws.FnTreClash", spec := "fnTreClash", recurses := true, apart := false, narrowed := true }
def FnTreClashUptoSaid : Prop := fnTreClashUptoRow.holds Try.pinned (OpenSpec.upto fnTreClashSpec)

/-- 'laws.FnTreOther', WHERE WHAT IT READS IS OF BULK AT MOST 1048576: true; the input reads as it did. -/
def fnTreOtherUptoRow : OpenClaim := { program := "ytiockogogfoojaa", sum := "2c4924f95d22d4477e5165cd2ba5c7c58a4cc6a519d1273539dd6129b17c0ca6", func := "loop.example/stileway/laws.FnTreOther", spec := "fnTreOther", unfollowed := true, recurses := true, apart := false, narrowed := true }
def FnTreOtherUptoSaid : Prop := fnTreOtherUptoRow.holds Try.pinned (OpenSpec.upto fnTreOtherSpec)

/-- 'laws.FnExactMixOk', WHERE WHAT IT READS IS OF BULK AT MOST 1048576: true; the input reads as it did. -/
def fnExactMixOkUptoRow : OpenClaim := { program := "ytiockogogfoojaa", sum := "2c4924f95d22d4477e5165cd2ba5c7c58a4cc6a519d1273539dd6129b17c0ca6", func := "loop.example/stileway/laws.FnExactMixOk", spec := "fnExactMixOk", apart := false, narrowed := true }
def FnExactMixOkUptoSaid : Prop := fnExactMixOkUptoRow.holds Try.pinned (OpenSpec.upto fnExactMixOkSpec)

/-- 'laws.FnExactMixPair', WHERE WHAT IT READS IS OF BULK AT MOST 1048576: true; the input reads as it did. -/
def fnExactMixPairUptoRow : OpenClaim := { program := "ytiockogogfoojaa", sum := "2c4924f95d22d4477e5165cd2ba5c7c58a4cc6a519d1273539dd6129b17c0ca6", func := "loop.example/stileway/laws.FnExactMixPair", spec := "fnExactMixPair", apart := false, narrowed := true }
def FnExactMixPairUptoSaid : Prop := fnExactMixPairUptoRow.holds Try.pinned (OpenSpec.upto fnExactMixPairSpec)

/-- 'laws.FnExactMixLeaf', WHERE WHAT IT READS IS OF BULK AT MOST 1048576: true; the input reads as it did. -/
def fnExactMixLeafUptoRow : OpenClaim := { program := "ytiockogogfoojaa", sum := "2c4924f95d22d4477e5165cd2ba5c7c58a4cc6a519d1273539dd6129b17c0ca6", func := "loop.example/stileway/laws.FnExactMixLeaf", spec := "fnExactMixLeaf", apart := false, narrowed := true }
def FnExactMixLeafUptoSaid : Prop := fnExactMixLeafUptoRow.holds Try.pinned (OpenSpec.upto fnExactMixLeafSpec)

/-- 'laws.FnExactTreOk', WHERE WHAT IT READS IS OF BULK AT MOST 1048576: true; the input reads as it did. -/
def fnExactTreOkUptoRow : OpenClaim := { program := "ytiockogogfoojaa", sum := "2c4924f95d22d4477e5165cd2ba5c7c58a4cc6a519d1273539dd6129b17c0ca6", func := "loop.example/stileway/laws.FnExactTreOk", spec := "fnExactTreOk", apart := false, narrowed := true }
def FnExactTreOkUptoSaid : Prop := fnExactTreOkUptoRow.holds Try.pinned (OpenSpec.upto fnExactTreOkSpec)

/-- 'laws.FnExactTreSplit', WHERE WHAT IT READS IS OF BULK AT MOST 1048576: true; the input reads as it did. -/
def fnExactTreSplitUptoRow : OpenClaim := { program := "ytiockogogfoojaa", sum := "2c4924f95d22d4477e5165cd2ba5c7c58a4cc6a519d1273539dd6129b17c0ca6", func := "loop.example/stileway/laws.FnExactTreSplit", spec := "fnExactTreSplit", apart := false, narrowed := true }
def FnExactTreSplitUptoSaid : Prop := fnExactTreSplitUptoRow.holds Try.pinned (OpenSpec.upto fnExactTreSplitSpec)

/-- 'laws.FnExactTreRoot', WHERE WHAT IT READS IS OF BULK AT MOST 1048576: true; the input reads as it did. -/
def fnExactTreRootUptoRow : OpenClaim := { program := "ytiockogogfoojaa", sum := "2c4924f95d22d4477e5165cd2ba5c7c58a4cc6a519d1273539dd6129b17c0ca6", func := "loop.example/stileway/laws.FnExactTreRoot", spec := "fnExactTreRoot", recurses := true, apart := false, narrowed := true }
def FnExactTreRootUptoSaid : Prop := fnExactTreRootUptoRow.holds Try.pinned (OpenSpec.upto fnExactTreRootSpec)

/-- 'laws.FnExactTreProof', WHERE WHAT IT READS IS OF BULK AT MOST 1048576: true; the input reads as it did. -/
def fnExactTreProofUptoRow : OpenClaim := { program := "ytiockogogfoojaa", sum := "2c4924f95d22d4477e5165cd2ba5c7c58a4cc6a519d1273539dd6129b17c0ca6", func := "loop.example/stileway/laws.FnExactTreProof", spec := "fnExactTreProof", unfollowed := true, recurses := true, apart := false, narrowed := true }
def FnExactTreProofUptoSaid : Prop := fnExactTreProofUptoRow.holds Try.pinned (OpenSpec.upto fnExactTreProofSpec)

/-- 'laws.FnExactTreUp', WHERE WHAT IT READS IS OF BULK AT MOST 1048576: true; the input reads as it did. -/
def fnExactTreUpUptoRow : OpenClaim := { program := "ytiockogogfoojaa", sum := "2c4924f95d22d4477e5165cd2ba5c7c58a4cc6a519d1273539dd6129b17c0ca6", func := "loop.example/stileway/laws.FnExactTreUp", spec := "fnExactTreUp", recurses := true, apart := false, narrowed := true }
def FnExactTreUpUptoSaid : Prop := fnExactTreUpUptoRow.holds Try.pinned (OpenSpec.upto fnExactTreUpSpec)

/-- 'laws.FnExactTreCheck', WHERE WHAT IT READS IS OF BULK AT MOST 1048576: true; the input reads as it did. -/
def fnExactTreCheckUptoRow : OpenClaim := { program := "ytiockogogfoojaa", sum := "2c4924f95d22d4477e5165cd2ba5c7c58a4cc6a519d1273539dd6129b17c0ca6", func := "loop.example/stileway/laws.FnExactTreCheck", spec := "fnExactTreCheck", recurses := true, apart := false, narrowed := true }
def FnExactTreCheckUptoSaid : Prop := fnExactTreCheckUptoRow.holds Try.pinned (OpenSpec.upto fnExactTreCheckSpec)

/-- 'laws.FnExactTreClash', WHERE WHAT IT READS IS OF BULK AT MOST 1048576: true; the input reads as it did. -/
def fnExactTreClashUptoRow : OpenClaim := { program := "ytiockogogfoojaa", sum := "2c4924f95d22d4477e5165cd2ba5c7c58a4cc6a519d1273539dd6129b17c0ca6", func := "loop.example/stileway/laws.FnExactTreClash", spec := "fnExactTreClash", recurses := true, apart := false, narrowed := true }
def FnExactTreClashUptoSaid : Prop := fnExactTreClashUptoRow.holds Try.pinned (OpenSpec.upto fnExactTreClashSpec)

end Rows
end Go.Proofs.Ytiockogogfoojaa
