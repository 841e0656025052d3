/-
  No cell of these rows narrows 'for every input' (looked for: loops, veiled, ifaces, maps, wideKeys, modest, calm, conditions, laid).
  DERIVED. THE GIVEN ROWS OF THIS SEAT. 24 by the template 'for every input the law returns true; each argument reads behind the call as it read before'; 0 by the template 'total and deterministic' (their statements: YtjdnengmllamcaaTotals.lean).
  GIVEN WITH THE SEED: the statements are not yours to turn. If you find one false, say at which input.
  Laid BY PROGRAM, IN A SANDBOX (cutbox-rows.mjs): the forced cells as the released guide's own fill.sh prints them over the translation f9a67c7758f137d2… (all of the seat's roots in one cut). By AI agents, Wed Nov 11 2026. No macro, syntax, notation, axiom, sorry.
-/
import Derived.Test.YtjdnengmllamcaaChecked
import GoSem.Claim
import GoSem.ClaimJoined
import GoSem.ClaimMapViews
import Derived.JoinedTies
import Derived.KernelRfl
namespace Go.Proofs.Ytjdnengmllamcaa
/- THE CELL 'sum', in the pinned program and in every row, IS THE sha256 OF THE DUMP (.gsa) THAT YtjdnengmllamcaaProg.lean LOADS. Nothing in Lean hashes anything: it is a label: what it is worth is what the hold of that sum in a sandbox is worth. -/
noncomputable def Try.pinned : Pinned := { name := "ytjdnengmllamcaa", sum := "f9a67c7758f137d2091bb16a5a30f659d1f14170c201b520bc8a5ae9bc9cb832", checked := Try.checked }
namespace Rows
def none {H : Type} : Left H := { results := [], args := [] }

/-- 'laws.FnEntLeaf': WHATEVER THE INPUT: true; the input reads as it did. -/
def fnEntLeafSpec : ChangeSpec := { name := "fnEntLeaf", fn := fun _ => fun
  | [d1, d2] => { results := [.lit (.bool true)], args := [d1, d2] }
  | _ => none }
def fnEntLeafRow : OpenClaim := { program := "ytjdnengmllamcaa", sum := "f9a67c7758f137d2091bb16a5a30f659d1f14170c201b520bc8a5ae9bc9cb832", func := "loop.example/stileway/laws.FnEntLeaf", spec := "fnEntLeaf", apart := false }
def FnEntLeafSaid : Prop := fnEntLeafRow.holds Try.pinned (OpenSpec.ofChange fnEntLeafSpec)

/-- ITS FALSE NEIGHBOUR: 'it returns false'. Refute it at one input. -/
def fnEntLeafWrong : ChangeSpec := { name := "fnEntLeaf", fn := fun _ => fun
  | [d1, d2] => { results := [.lit (.bool false)], args := [d1, d2] }
  | _ => none }
def FnEntLeafWrongFalsely : Prop := fnEntLeafRow.holds Try.pinned (OpenSpec.ofChange fnEntLeafWrong)

/-- 'laws.FnEntAbout': WHATEVER THE INPUT: true; the input reads as it did. -/
def fnEntAboutSpec : ChangeSpec := { name := "fnEntAbout", fn := fun _ => fun
  | [d] => { results := [.lit (.bool true)], args := [d] }
  | _ => none }
def fnEntAboutRow : OpenClaim := { program := "ytjdnengmllamcaa", sum := "f9a67c7758f137d2091bb16a5a30f659d1f14170c201b520bc8a5ae9bc9cb832", func := "loop.example/stileway/laws.FnEntAbout", spec := "fnEntAbout", apart := false }
def FnEntAboutSaid : Prop := fnEntAboutRow.holds Try.pinned (OpenSpec.ofChange fnEntAboutSpec)

/-- ITS FALSE NEIGHBOUR: 'it returns false'. Refute it at one input. -/
def fnEntAboutWrong : ChangeSpec := { name := "fnEntAbout", fn := fun _ => fun
  | [d] => { results := [.lit (.bool false)], args := [d] }
  | _ => none }
def FnEntAboutWrongFalsely : Prop := fnEntAboutRow.holds Try.pinned (OpenSpec.ofChange fnEntAboutWrong)

/-- 'laws.FnOwnFits': WHATEVER THE INPUT: true; the input reads as it did. -/
def fnOwnFitsSpec : ChangeSpec := { name := "fnOwnFits", fn := fun _ => fun
  | [d] => { results := [.lit (.bool true)], args := [d] }
  | _ => none }
def fnOwnFitsRow : OpenClaim := { program := "ytjdnengmllamcaa", sum := "f9a67c7758f137d2091bb16a5a30f659d1f14170c201b520bc8a5ae9bc9cb832", func := "loop.example/stileway/laws.FnOwnFits", spec := "fnOwnFits", unfollowed := true, recurses := true, apart := false }
def FnOwnFitsSaid : Prop := fnOwnFitsRow.holds Try.pinned (OpenSpec.ofChange fnOwnFitsSpec)

/-- ITS FALSE NEIGHBOUR: 'it returns false'. Refute it at one input. -/
def fnOwnFitsWrong : ChangeSpec := { name := "fnOwnFits", fn := fun _ => fun
  | [d] => { results := [.lit (.bool false)], args := [d] }
  | _ => none }
def FnOwnFitsWrongFalsely : Prop := fnOwnFitsRow.holds Try.pinned (OpenSpec.ofChange fnOwnFitsWrong)

/-- 'laws.FnOwnPut': WHATEVER THE INPUT: true; the input reads as it did. -/
def fnOwnPutSpec : ChangeSpec := { name := "fnOwnPut", fn := fun _ => fun
  | [d] => { results := [.lit (.bool true)], args := [d] }
  | _ => none }
def fnOwnPutRow : OpenClaim := { program := "ytjdnengmllamcaa", sum := "f9a67c7758f137d2091bb16a5a30f659d1f14170c201b520bc8a5ae9bc9cb832", func := "loop.example/stileway/laws.FnOwnPut", spec := "fnOwnPut", unfollowed := true, recurses := true, apart := false }
def FnOwnPutSaid : Prop := fnOwnPutRow.holds Try.pinned (OpenSpec.ofChange fnOwnPutSpec)

/-- ITS FALSE NEIGHBOUR: 'it returns false'. Refute it at one input. -/
def fnOwnPutWrong : ChangeSpec := { name := "fnOwnPut", fn := fun _ => fun
  | [d] => { results := [.lit (.bool false)], args := [d] }
  | _ => none }
def FnOwnPutWrongFalsely : Prop := fnOwnPutRow.holds Try.pinned (OpenSpec.ofChange fnOwnPutWrong)

/-- 'laws.FnOwnFold': WHATEVER THE INPUT: true; the input reads as it did. -/
def fnOwnFoldSpec : ChangeSpec := { name := "fnOwnFold", fn := fun _ => fun
  | [d] => { results := [.lit (.bool true)], args := [d] }
  | _ => none }
def fnOwnFoldRow : OpenClaim := { program := "ytjdnengmllamcaa", sum := "f9a67c7758f137d2091bb16a5a30f659d1f14170c201b520bc8a5ae9bc9cb832", func := "loop.example/stileway/laws.FnOwnFold", spec := "fnOwnFold", unfollowed := true, recurses := true, apart := false }
def FnOwnFoldSaid : Prop := fnOwnFoldRow.holds Try.pinned (OpenSpec.ofChange fnOwnFoldSpec)

/-- ITS FALSE NEIGHBOUR: 'it returns false'. Refute it at one input. -/
def fnOwnFoldWrong : ChangeSpec := { name := "fnOwnFold", fn := fun _ => fun
  | [d] => { results := [.lit (.bool false)], args := [d] }
  | _ => none }
def FnOwnFoldWrongFalsely : Prop := fnOwnFoldRow.holds Try.pinned (OpenSpec.ofChange fnOwnFoldWrong)

/-- 'laws.FnOwnOnce': WHATEVER THE INPUT: true; the input reads as it did. -/
def fnOwnOnceSpec : ChangeSpec := { name := "fnOwnOnce", fn := fun _ => fun
  | [d] => { results := [.lit (.bool true)], args := [d] }
  | _ => none }
def fnOwnOnceRow : OpenClaim := { program := "ytjdnengmllamcaa", sum := "f9a67c7758f137d2091bb16a5a30f659d1f14170c201b520bc8a5ae9bc9cb832", func := "loop.example/stileway/laws.FnOwnOnce", spec := "fnOwnOnce", unfollowed := true, recurses := true, apart := false }
def FnOwnOnceSaid : Prop := fnOwnOnceRow.holds Try.pinned (OpenSpec.ofChange fnOwnOnceSpec)

/-- ITS FALSE NEIGHBOUR: 'it returns false'. Refute it at one input. -/
def fnOwnOnceWrong : ChangeSpec := { name := "fnOwnOnce", fn := fun _ => fun
  | [d] => { results := [.lit (.bool false)], args := [d] }
  | _ => none }
def FnOwnOnceWrongFalsely : Prop := fnOwnOnceRow.holds Try.pinned (OpenSpec.ofChange fnOwnOnceWrong)

/-- 'laws.FnOwnRoot': WHATEVER THE INPUT: true; the input reads as it did. -/
def fnOwnRootSpec : ChangeSpec := { name := "fnOwnRoot", fn := fun _ => fun
  | [d] => { results := [.lit (.bool true)], args := [d] }
  | _ => none }
def fnOwnRootRow : OpenClaim := { program := "ytjdnengmllamcaa", sum := "f9a67c7758f137d2091bb16a5a30f659d1f14170c201b520bc8a5ae9bc9cb832", func := "loop.example/stileway/laws.FnOwnRoot", spec := "fnOwnRoot", unfollowed := true, recurses := true, apart := false }
def FnOwnRootSaid : Prop := fnOwnRootRow.holds Try.pinned (OpenSpec.ofChange fnOwnRootSpec)

/-- ITS FALSE NEIGHBOUR: 'it returns false'. Refute it at one input. -/
def fnOwnRootWrong : ChangeSpec := { name := "fnOwnRoot", fn := fun _ => fun
  | [d] => { results := [.lit (.bool false)], args := [d] }
  | _ => none }
def FnOwnRootWrongFalsely : Prop := fnOwnRootRow.holds Try.pinned (OpenSpec.ofChange fnOwnRootWrong)

/-- 'laws.FnOwnCheck': WHATEVER THE INPUT: true; the input reads as it did. -/
def fnOwnCheckSpec : ChangeSpec := { name := "fnOwnCheck", fn := fun _ => fun
  | [d1, d2] => { results := [.lit (.bool true)], args := [d1, d2] }
  | _ => none }
def fnOwnCheckRow : OpenClaim := { program := "ytjdnengmllamcaa", sum := "f9a67c7758f137d2091bb16a5a30f659d1f14170c201b520bc8a5ae9bc9cb832", func := "loop.example/stileway/laws.FnOwnCheck", spec := "fnOwnCheck", recurses := true, apart := false }
def FnOwnCheckSaid : Prop := fnOwnCheckRow.holds Try.pinned (OpenSpec.ofChange fnOwnCheckSpec)

/-- ITS FALSE NEIGHBOUR: 'it returns false'. Refute it at one input. -/
def fnOwnCheckWrong : ChangeSpec := { name := "fnOwnCheck", fn := fun _ => fun
  | [d1, d2] => { results := [.lit (.bool false)], args := [d1, d2] }
  | _ => none }
def FnOwnCheckWrongFalsely : Prop := fnOwnCheckRow.holds Try.pinned (OpenSpec.ofChange fnOwnCheckWrong)

/-- 'laws.FnOwnLeaf': WHATEVER THE INPUT: true; the input reads as it did. -/
def fnOwnLeafSpec : ChangeSpec := { name := "fnOwnLeaf", fn := fun _ => fun
  | [d] => { results := [.lit (.bool true)], args := [d] }
  | _ => none }
def fnOwnLeafRow : OpenClaim := { program := "ytjdnengmllamcaa", sum := "f9a67c7758f137d2091bb16a5a30f659d1f14170c201b520bc8a5ae9bc9cb832", func := "loop.example/stileway/laws.FnOwnLeaf", spec := "fnOwnLeaf", apart := false }
def FnOwnLeafSaid : Prop := fnOwnLeafRow.holds Try.pinned (OpenSpec.ofChange fnOwnLeafSpec)

/-- ITS FALSE NEIGHBOUR: 'it returns false'. Refute it at one input. -/
def fnOwnLeafWrong : ChangeSpec := { name := "fnOwnLeaf", fn := fun _ => fun
  | [d] => { results := [.lit (.bool false)], args := [d] }
  | _ => none }
def FnOwnLeafWrongFalsely : Prop := fnOwnLeafRow.holds Try.pinned (OpenSpec.ofChange fnOwnLeafWrong)

/-- 'laws.FnOwnOf': WHATEVER THE INPUT: true; the input reads as it did. -/
def fnOwnOfSpec : ChangeSpec := { name := "fnOwnOf", fn := fun _ => fun
  | [d] => { results := [.lit (.bool true)], args := [d] }
  | _ => none }
def fnOwnOfRow : OpenClaim := { program := "ytjdnengmllamcaa", sum := "f9a67c7758f137d2091bb16a5a30f659d1f14170c201b520bc8a5ae9bc9cb832", func := "loop.example/stileway/laws.FnOwnOf", spec := "fnOwnOf", apart := false }
def FnOwnOfSaid : Prop := fnOwnOfRow.holds Try.pinned (OpenSpec.ofChange fnOwnOfSpec)

/-- ITS FALSE NEIGHBOUR: 'it returns false'. Refute it at one input. -/
def fnOwnOfWrong : ChangeSpec := { name := "fnOwnOf", fn := fun _ => fun
  | [d] => { results := [.lit (.bool false)], args := [d] }
  | _ => none }
def FnOwnOfWrongFalsely : Prop := fnOwnOfRow.holds Try.pinned (OpenSpec.ofChange fnOwnOfWrong)

/-- 'laws.FnMonMove': WHATEVER THE INPUT: true; the input reads as it did. -/
def fnMonMoveSpec : ChangeSpec := { name := "fnMonMove", fn := fun _ => fun
  | [d] => { results := [.lit (.bool true)], args := [d] }
  | _ => none }
def fnMonMoveRow : OpenClaim := { program := "ytjdnengmllamcaa", sum := "f9a67c7758f137d2091bb16a5a30f659d1f14170c201b520bc8a5ae9bc9cb832", func := "loop.example/stileway/laws.FnMonMove", spec := "fnMonMove", unfollowed := true, recurses := true, apart := false }
def FnMonMoveSaid : Prop := fnMonMoveRow.holds Try.pinned (OpenSpec.ofChange fnMonMoveSpec)

/-- ITS FALSE NEIGHBOUR: 'it returns false'. Refute it at one input. -/
def fnMonMoveWrong : ChangeSpec := { name := "fnMonMove", fn := fun _ => fun
  | [d] => { results := [.lit (.bool false)], args := [d] }
  | _ => none }
def FnMonMoveWrongFalsely : Prop := fnMonMoveRow.holds Try.pinned (OpenSpec.ofChange fnMonMoveWrong)

/-- 'laws.FnMonTurn': WHATEVER THE INPUT: true; the input reads as it did. -/
def fnMonTurnSpec : ChangeSpec := { name := "fnMonTurn", fn := fun _ => fun
  | [d] => { results := [.lit (.bool true)], args := [d] }
  | _ => none }
def fnMonTurnRow : OpenClaim := { program := "ytjdnengmllamcaa", sum := "f9a67c7758f137d2091bb16a5a30f659d1f14170c201b520bc8a5ae9bc9cb832", func := "loop.example/stileway/laws.FnMonTurn", spec := "fnMonTurn", apart := false }
def FnMonTurnSaid : Prop := fnMonTurnRow.holds Try.pinned (OpenSpec.ofChange fnMonTurnSpec)

/-- ITS FALSE NEIGHBOUR: 'it returns false'. Refute it at one input. -/
def fnMonTurnWrong : ChangeSpec := { name := "fnMonTurn", fn := fun _ => fun
  | [d] => { results := [.lit (.bool false)], args := [d] }
  | _ => none }
def FnMonTurnWrongFalsely : Prop := fnMonTurnRow.holds Try.pinned (OpenSpec.ofChange fnMonTurnWrong)

/-- 'laws.FnMonHas': WHATEVER THE INPUT: true; the input reads as it did. -/
def fnMonHasSpec : ChangeSpec := { name := "fnMonHas", fn := fun _ => fun
  | [d1, d2] => { results := [.lit (.bool true)], args := [d1, d2] }
  | _ => none }
def fnMonHasRow : OpenClaim := { program := "ytjdnengmllamcaa", sum := "f9a67c7758f137d2091bb16a5a30f659d1f14170c201b520bc8a5ae9bc9cb832", func := "loop.example/stileway/laws.FnMonHas", spec := "fnMonHas", apart := false }
def FnMonHasSaid : Prop := fnMonHasRow.holds Try.pinned (OpenSpec.ofChange fnMonHasSpec)

/-- ITS FALSE NEIGHBOUR: 'it returns false'. Refute it at one input. -/
def fnMonHasWrong : ChangeSpec := { name := "fnMonHas", fn := fun _ => fun
  | [d1, d2] => { results := [.lit (.bool false)], args := [d1, d2] }
  | _ => none }
def FnMonHasWrongFalsely : Prop := fnMonHasRow.holds Try.pinned (OpenSpec.ofChange fnMonHasWrong)

/-- 'laws.FnMonTwo': WHATEVER THE INPUT: true; the input reads as it did. -/
def fnMonTwoSpec : ChangeSpec := { name := "fnMonTwo", fn := fun _ => fun
  | [d] => { results := [.lit (.bool true)], args := [d] }
  | _ => none }
def fnMonTwoRow : OpenClaim := { program := "ytjdnengmllamcaa", sum := "f9a67c7758f137d2091bb16a5a30f659d1f14170c201b520bc8a5ae9bc9cb832", func := "loop.example/stileway/laws.FnMonTwo", spec := "fnMonTwo", unfollowed := true, recurses := true, apart := false }
def FnMonTwoSaid : Prop := fnMonTwoRow.holds Try.pinned (OpenSpec.ofChange fnMonTwoSpec)

/-- ITS FALSE NEIGHBOUR: 'it returns false'. Refute it at one input. -/
def fnMonTwoWrong : ChangeSpec := { name := "fnMonTwo", fn := fun _ => fun
  | [d] => { results := [.lit (.bool false)], args := [d] }
  | _ => none }
def FnMonTwoWrongFalsely : Prop := fnMonTwoRow.holds Try.pinned (OpenSpec.ofChange fnMonTwoWrong)

/-- 'laws.FnExactOwnFits': WHATEVER THE INPUT: true; the input reads as it did. -/
def fnExactOwnFitsSpec : ChangeSpec := { name := "fnExactOwnFits", fn := fun _ => fun
  | [d1, d2] => { results := [.lit (.bool true)], args := [d1, d2] }
  | _ => none }
def fnExactOwnFitsRow : OpenClaim := { program := "ytjdnengmllamcaa", sum := "f9a67c7758f137d2091bb16a5a30f659d1f14170c201b520bc8a5ae9bc9cb832", func := "loop.example/stileway/laws.FnExactOwnFits", spec := "fnExactOwnFits", unfollowed := true, recurses := true, apart := false }
def FnExactOwnFitsSaid : Prop := fnExactOwnFitsRow.holds Try.pinned (OpenSpec.ofChange fnExactOwnFitsSpec)

/-- ITS FALSE NEIGHBOUR: 'it returns false'. Refute it at one input. -/
def fnExactOwnFitsWrong : ChangeSpec := { name := "fnExactOwnFits", fn := fun _ => fun
  | [d1, d2] => { results := [.lit (.bool false)], args := [d1, d2] }
  | _ => none }
def FnExactOwnFitsWrongFalsely : Prop := fnExactOwnFitsRow.holds Try.pinned (OpenSpec.ofChange fnExactOwnFitsWrong)

/-- 'laws.FnExactOwnPut': WHATEVER THE INPUT: true; the input reads as it did. -/
def fnExactOwnPutSpec : ChangeSpec := { name := "fnExactOwnPut", fn := fun _ => fun
  | [d1, d2] => { results := [.lit (.bool true)], args := [d1, d2] }
  | _ => none }
def fnExactOwnPutRow : OpenClaim := { program := "ytjdnengmllamcaa", sum := "f9a67c7758f137d2091bb16a5a30f659d1f14170c201b520bc8a5ae9bc9cb832", func := "loop.example/stileway/laws.FnExactOwnPut", spec := "fnExactOwnPut", unfollowed := true, recurses := true, apart := false }
def FnExactOwnPutSaid : Prop := fnExactOwnPutRow.holds Try.pinned (OpenSpec.ofChange fnExactOwnPutSpec)

/-- ITS FALSE NEIGHBOUR: 'it returns false'. Refute it at one input. -/
def fnExactOwnPutWrong : ChangeSpec := { name := "fnExactOwnPut", fn := fun _ => fun
  | [d1, d2] => { results := [.lit (.bool false)], args := [d1, d2] }
  | _ => none }
def FnExactOwnPutWrongFalsely : Prop := fnExactOwnPutRow.holds Try.pinned (OpenSpec.ofChange fnExactOwnPutWrong)

/-- 'laws.FnExactOwnFold': WHATEVER THE INPUT: true; the input reads as it did. -/
def fnExactOwnFoldSpec : ChangeSpec := { name := "fnExactOwnFold", fn := fun _ => fun
  | [d] => { results := [.lit (.bool true)], args := [d] }
  | _ => none }
def fnExactOwnFoldRow : OpenClaim := { program := "ytjdnengmllamcaa", sum := "f9a67c7758f137d2091bb16a5a30f659d1f14170c201b520bc8a5ae9bc9cb832", func := "loop.example/stileway/laws.FnExactOwnFold", spec := "fnExactOwnFold", unfollowed := true, recurses := true, apart := false }
def FnExactOwnFoldSaid : Prop := fnExactOwnFoldRow.holds Try.pinned (OpenSpec.ofChange fnExactOwnFoldSpec)

/-- ITS FALSE NEIGHBOUR: 'it returns false'. Refute it at one input. -/
def fnExactOwnFoldWrong : ChangeSpec := { name := "fnExactOwnFold", fn := fun _ => fun
  | [d] => { results := [.lit (.bool false)], args := [d] }
  | _ => none }
def FnExactOwnFoldWrongFalsely : Prop := fnExactOwnFoldRow.holds Try.pinned (OpenSpec.ofChange fnExactOwnFoldWrong)

/-- 'laws.FnExactOwnRoot': WHATEVER THE INPUT: true; the input reads as it did. -/
def fnExactOwnRootSpec : ChangeSpec := { name := "fnExactOwnRoot", fn := fun _ => fun
  | [d] => { results := [.lit (.bool true)], args := [d] }
  | _ => none }
def fnExactOwnRootRow : OpenClaim := { program := "ytjdnengmllamcaa", sum := "f9a67c7758f137d2091bb16a5a30f659d1f14170c201b520bc8a5ae9bc9cb832", func := "loop.example/stileway/laws.FnExactOwnRoot", spec := "fnExactOwnRoot", recurses := true, apart := false }
def FnExactOwnRootSaid : Prop := fnExactOwnRootRow.holds Try.pinned (OpenSpec.ofChange fnExactOwnRootSpec)

/-- ITS FALSE NEIGHBOUR: 'it returns false'. Refute it at one input. -/
def fnExactOwnRootWrong : ChangeSpec := { name := "fnExactOwnRoot", fn := fun _ => fun
  | [d] => { results := [.lit (.bool false)], args := [d] }
  | _ => none }
def FnExactOwnRootWrongFalsely : Prop := fnExactOwnRootRow.holds Try.pinned (OpenSpec.ofChange fnExactOwnRootWrong)

/-- 'laws.FnExactOwnProof': WHATEVER THE INPUT: true; the input reads as it did. -/
def fnExactOwnProofSpec : ChangeSpec := { name := "fnExactOwnProof", fn := fun _ => fun
  | [d1, d2] => { results := [.lit (.bool true)], args := [d1, d2] }
  | _ => none }
def fnExactOwnProofRow : OpenClaim := { program := "ytjdnengmllamcaa", sum := "f9a67c7758f137d2091bb16a5a30f659d1f14170c201b520bc8a5ae9bc9cb832", func := "loop.example/stileway/laws.FnExactOwnProof", spec := "fnExactOwnProof", unfollowed := true, recurses := true, apart := false }
def FnExactOwnProofSaid : Prop := fnExactOwnProofRow.holds Try.pinned (OpenSpec.ofChange fnExactOwnProofSpec)

/-- ITS FALSE NEIGHBOUR: 'it returns false'. Refute it at one input. -/
def fnExactOwnProofWrong : ChangeSpec := { name := "fnExactOwnProof", fn := fun _ => fun
  | [d1, d2] => { results := [.lit (.bool false)], args := [d1, d2] }
  | _ => none }
def FnExactOwnProofWrongFalsely : Prop := fnExactOwnProofRow.holds Try.pinned (OpenSpec.ofChange fnExactOwnProofWrong)

/-- 'laws.FnExactMonOk': WHATEVER THE INPUT: true; the input reads as it did. -/
def fnExactMonOkSpec : ChangeSpec := { name := "fnExactMonOk", fn := fun _ => fun
  | [d] => { results := [.lit (.bool true)], args := [d] }
  | _ => none }
def fnExactMonOkRow : OpenClaim := { program := "ytjdnengmllamcaa", sum := "f9a67c7758f137d2091bb16a5a30f659d1f14170c201b520bc8a5ae9bc9cb832", func := "loop.example/stileway/laws.FnExactMonOk", spec := "fnExactMonOk", apart := false }
def FnExactMonOkSaid : Prop := fnExactMonOkRow.holds Try.pinned (OpenSpec.ofChange fnExactMonOkSpec)

/-- ITS FALSE NEIGHBOUR: 'it returns false'. Refute it at one input. -/
def fnExactMonOkWrong : ChangeSpec := { name := "fnExactMonOk", fn := fun _ => fun
  | [d] => { results := [.lit (.bool false)], args := [d] }
  | _ => none }
def FnExactMonOkWrongFalsely : Prop := fnExactMonOkRow.holds Try.pinned (OpenSpec.ofChange fnExactMonOkWrong)

/-- 'laws.FnExactMonHas': WHATEVER THE INPUT: true; the input reads as it did. -/
def fnExactMonHasSpec : ChangeSpec := { name := "fnExactMonHas", fn := fun _ => fun
  | [d1, d2] => { results := [.lit (.bool true)], args := [d1, d2] }
  | _ => none }
def fnExactMonHasRow : OpenClaim := { program := "ytjdnengmllamcaa", sum := "f9a67c7758f137d2091bb16a5a30f659d1f14170c201b520bc8a5ae9bc9cb832", func := "loop.example/stileway/laws.FnExactMonHas", spec := "fnExactMonHas", apart := false }
def FnExactMonHasSaid : Prop := fnExactMonHasRow.holds Try.pinned (OpenSpec.ofChange fnExactMonHasSpec)

/-- ITS FALSE NEIGHBOUR: 'it returns false'. Refute it at one input. -/
def fnExactMonHasWrong : ChangeSpec := { name := "fnExactMonHas", fn := fun _ => fun
  | [d1, d2] => { results := [.lit (.bool false)], args := [d1, d2] }
  | _ => none }
def FnExactMonHasWrongFalsely : Prop := fnExactMonHasRow.holds Try.pinned (OpenSpec.ofChange fnExactMonHasWrong)

/-- 'laws.FnExactMonTurn': WHATEVER THE INPUT: true; the input reads as it did. -/
def fnExactMonTurnSpec : ChangeSpec := { name := "fnExactMonTurn", fn := fun _ => fun
  | [d1, d2, d3] => { results := [.lit (.bool true)], args := [d1, d2, d3] }
  | _ => none }
def fnExactMonTurnRow : OpenClaim := { program := "ytjdnengmllamcaa", sum := "f9a67c7758f137d2091bb16a5a30f659d1f14170c201b520bc8a5ae9bc9cb832", func := "loop.example/stileway/laws.FnExactMonTurn", spec := "fnExactMonTurn", apart := false }
def FnExactMonTurnSaid : Prop := fnExactMonTurnRow.holds Try.pinned (OpenSpec.ofChange fnExactMonTurnSpec)

/-- ITS FALSE NEIGHBOUR: 'it returns false'. Refute it at one input. -/
def fnExactMonTurnWrong : ChangeSpec := { name := "fnExactMonTurn", fn := fun _ => fun
  | [d1, d2, d3] => { results := [.lit (.bool false)], args := [d1, d2, d3] }
  | _ => none }
def FnExactMonTurnWrongFalsely : Prop := fnExactMonTurnRow.holds Try.pinned (OpenSpec.ofChange fnExactMonTurnWrong)

/-- 'laws.FnExactMonMove': WHATEVER THE INPUT: true; the input reads as it did. -/
def fnExactMonMoveSpec : ChangeSpec := { name := "fnExactMonMove", fn := fun _ => fun
  | [d1, d2, d3, d4] => { results := [.lit (.bool true)], args := [d1, d2, d3, d4] }
  | _ => none }
def fnExactMonMoveRow : OpenClaim := { program := "ytjdnengmllamcaa", sum := "f9a67c7758f137d2091bb16a5a30f659d1f14170c201b520bc8a5ae9bc9cb832", func := "loop.example/stileway/laws.FnExactMonMove", spec := "fnExactMonMove", unfollowed := true, recurses := true, apart := false }
def FnExactMonMoveSaid : Prop := fnExactMonMoveRow.holds Try.pinned (OpenSpec.ofChange fnExactMonMoveSpec)

/-- ITS FALSE NEIGHBOUR: 'it returns false'. Refute it at one input. -/
def fnExactMonMoveWrong : ChangeSpec := { name := "fnExactMonMove", fn := fun _ => fun
  | [d1, d2, d3, d4] => { results := [.lit (.bool false)], args := [d1, d2, d3, d4] }
  | _ => none }
def FnExactMonMoveWrongFalsely : Prop := fnExactMonMoveRow.holds Try.pinned (OpenSpec.ofChange fnExactMonMoveWrong)

/-- 'laws.FnExactMonSum': WHATEVER THE INPUT: true; the input reads as it did. -/
def fnExactMonSumSpec : ChangeSpec := { name := "fnExactMonSum", fn := fun _ => fun
  | [d] => { results := [.lit (.bool true)], args := [d] }
  | _ => none }
def fnExactMonSumRow : OpenClaim := { program := "ytjdnengmllamcaa", sum := "f9a67c7758f137d2091bb16a5a30f659d1f14170c201b520bc8a5ae9bc9cb832", func := "loop.example/stileway/laws.FnExactMonSum", spec := "fnExactMonSum", apart := false }
def FnExactMonSumSaid : Prop := fnExactMonSumRow.holds Try.pinned (OpenSpec.ofChange fnExactMonSumSpec)

/-- ITS FALSE NEIGHBOUR: 'it returns false'. Refute it at one input. -/
def fnExactMonSumWrong : ChangeSpec := { name := "fnExactMonSum", fn := fun _ => fun
  | [d] => { results := [.lit (.bool false)], args := [d] }
  | _ => none }
def FnExactMonSumWrongFalsely : Prop := fnExactMonSumRow.holds Try.pinned (OpenSpec.ofChange fnExactMonSumWrong)

/- THE SECOND FORM. 'bulk': how many values and letters a reading holds, each counted each time it is reached (what is shared counts as often as it is met; a slice's spare places count too). A statement '..UptoSaid' is the law's where the arguments, and the package variables that the reading takes, are together of bulk at most 1048576: NARROWER than '..Said'. Prove '..Said' where nothing that the law and all that it calls make is longer than what came in: it says more and counts as full. Else prove '..UptoSaid'. A law counts once. -/
mutual
def uptoBulk {H : Type} : DataW H → Nat
  | .lit (.string bytes) => bytes.length + 1
  | .lit _ => 1
  | .nil => 1
  | .ptr d => uptoBulk d + 1
  | .slice elems spare => uptoBulkAll elems + uptoBulkAll spare + 1
  | .agg parts => uptoBulkAll parts + 1
  | .iface _ d => uptoBulk d + 1
  | .map entries => uptoBulkEntries entries + 1
  | .held _ => 1
def uptoBulkAll {H : Type} : List (DataW H) → Nat
  | [] => 0
  | d :: r => uptoBulk d + uptoBulkAll r
def uptoBulkEntries {H : Type} : List (Lit × DataW H) → Nat
  | [] => 0
  | x :: r => uptoBulkEntry x + uptoBulkEntries r
def uptoBulkEntry {H : Type} : Lit × DataW H → Nat
  | (.string bytes, d) => bytes.length + uptoBulk d + 1
  | (_, d) => uptoBulk d + 1
 end
def uptoSmall : (H : Type) → List (DataW H) → Bool := fun _ ds => decide (uptoBulkAll ds ≤ 1048576)
def OpenSpec.upto (s : _root_.Go.ChangeSpec) : _root_.Go.OpenSpec := { _root_.Go.OpenSpec.ofChange s with cond := some uptoSmall }

/-- 'laws.FnEntLeaf', WHERE WHAT IT READS IS OF BULK AT MOST 1048576: true; the input reads as it did. -/
def fnEntLeafUptoRow : OpenClaim := { program := "ytjdnengmllamcaa", sum := "f9a67c7758f137d2091bb16a5a30f659d1f14170c201b520bc8a5ae9bc9cb832", func := "loop.example/stileway/laws.FnEntLeaf", spec := "fnEntLeaf", apart := false, narrowed := true }
def FnEntLeafUptoSaid : Prop := fnEntLeafUptoRow.holds Try.pinned (OpenSpec.upto fnEntLeafSpec)

/-- 'laws.FnEntAbout', WHERE WHAT IT READS IS OF BULK AT MOST 1048576: true; the input reads as it did. -/
def fnEntAboutUptoRow : OpenClaim := { program := "ytjdnengmllamcaa", sum := "f9a67c7758f137d2091bb16a5a30f659d1f14170c201b520bc8a5ae9bc9cb832", func := "loop.example/stileway/laws.FnEntAbout", spec := "fnEntAbout", apart := false, narrowed := true }
def FnEntAboutUptoSaid : Prop := fnEntAboutUptoRow.holds Try.pinned (OpenSpec.upto fnEntAboutSpec)

/-- 'laws.FnOwnFits', WHERE WHAT IT READS IS OF BULK AT MOST 1048576: true; the input reads as it did. -/
def fnOwnFitsUptoRow : OpenClaim := { program := "ytjdnengmllamcaa", sum := "f9a67c7758f137d2091bb16a5a30f659d1f14170c201b520bc8a5ae9bc9cb832", func := "loop.example/stileway/laws.FnOwnFits", spec := "fnOwnFits", unfollowed := true, recurses := true, apart := false, narrowed := true }
def FnOwnFitsUptoSaid : Prop := fnOwnFitsUptoRow.holds Try.pinned (OpenSpec.upto fnOwnFitsSpec)

/-- 'laws.FnOwnPut', WHERE WHAT IT READS IS OF BULK AT MOST 1048576: true; the input reads as it did. -/
def fnOwnPutUptoRow : OpenClaim := { program := "ytjdnengmllamcaa", sum := "f9a67c7758f137d2091bb16a5a30f659d1f14170c201b520bc8a5ae9bc9cb832", func := "loop.example/stileway/laws.FnOwnPut", spec := "fnOwnPut", unfollowed := true, recurses := true, apart := false, narrowed := true }
def FnOwnPutUptoSaid : Prop := fnOwnPutUptoRow.holds Try.pinned (OpenSpec.upto fnOwnPutSpec)

/-- 'laws.FnOwnFold', WHERE WHAT IT READS IS OF BULK AT MOST 1048576: true; the input reads as it did. -/
def fnOwnFoldUptoRow : OpenClaim := { program := "ytjdnengmllamcaa", sum := "f9a67c7758f137d2091bb16a5a30f659d1f14170c201b520bc8a5ae9bc9cb832", func := "loop.example/stileway/laws.FnOwnFold", spec := "fnOwnFold", unfollowed := true, recurses := true, apart := false, narrowed := true }
def FnOwnFoldUptoSaid : Prop := fnOwnFoldUptoRow.holds Try.pinned (OpenSpec.upto fnOwnFoldSpec)

/-- 'laws.FnOwnOnce', WHERE WHAT IT READS IS OF BULK AT MOST 1048576: true; the input reads as it did. -/
def fnOwnOnceUptoRow : OpenClaim := { program := "ytjdnengmllamcaa", sum := "f9a67c7758f137d2091bb16a5a30f659d1f14170c201b520bc8a5ae9bc9cb832", func := "loop.example/stileway/laws.FnOwnOnce", spec := "fnOwnOnce", unfollowed := true, recurses := true, apart := false, narrowed := true }
def FnOwnOnceUptoSaid : Prop := fnOwnOnceUptoRow.holds Try.pinned (OpenSpec.upto fnOwnOnceSpec)

/-- 'laws.FnOwnRoot', WHERE WHAT IT READS IS OF BULK AT MOST 1048576: true; the input reads as it did. -/
def fnOwnRootUptoRow : OpenClaim := { program := "ytjdnengmllamcaa", sum := "f9a67c7758f137d2091bb16a5a30f659d1f14170c201b520bc8a5ae9bc9cb832", func := "loop.example/stileway/laws.FnOwnRoot", spec := "fnOwnRoot", unfollowed := true, recurses := true, apart := false, narrowed := true }
def FnOwnRootUptoSaid : Prop := fnOwnRootUptoRow.holds Try.pinned (OpenSpec.upto fnOwnRootSpec)

/-- 'laws.FnOwnCheck', WHERE WHAT IT READS IS OF BULK AT MOST 1048576: true; the input reads as it did. -/
def fnOwnCheckUptoRow : OpenClaim := { program := "ytjdnengmllamcaa", sum := "f9a67c7758f137d2091bb16a5a30f659d1f14170c201b520bc8a5ae9bc9cb832", func := "loop.example/stileway/laws.FnOwnCheck", spec := "fnOwnCheck", recurses := true, apart := false, narrowed := true }
def FnOwnCheckUptoSaid : Prop := fnOwnCheckUptoRow.holds Try.pinned (OpenSpec.upto fnOwnCheckSpec)

/-- 'laws.FnOwnLeaf', WHERE WHAT IT READS IS OF BULK AT MOST 1048576: true; the input reads as it did. -/
def fnOwnLeafUptoRow : OpenClaim := { program := "ytjdnengmllamcaa", sum := "f9a67c7758f137d2091bb16a5a30f659d1f14170c201b520bc8a5ae9bc9cb832", func := "loop.example/stileway/laws.FnOwnLeaf", spec := "fnOwnLeaf", apart := false, narrowed := true }
def FnOwnLeafUptoSaid : Prop := fnOwnLeafUptoRow.holds Try.pinned (OpenSpec.upto fnOwnLeafSpec)

/-- 'laws.FnOwnOf', WHERE WHAT IT READS IS OF BULK AT MOST 1048576: true; the input reads as it did. -/
def fnOwnOfUptoRow : OpenClaim := { program := "ytjdnengmllamcaa", sum := "f9a67c7758f137d2091bb16a5a30f659d1f14170c201b520bc8a5ae9bc9cb832", func := "loop.example/stileway/laws.FnOwnOf", spec := "fnOwnOf", apart := false, narrowed := true }
def FnOwnOfUptoSaid : Prop := fnOwnOfUptoRow.holds Try.pinned (OpenSpec.upto fnOwnOfSpec)

/-- 'laws.FnMonMove', WHERE WHAT IT READS IS OF BULK AT MOST 1048576: true; the input reads as it did. -/
def fnMonMoveUptoRow : OpenClaim := { program := "ytjdnengmllamcaa", sum := "f9a67c7758f137d2091bb16a5a30f659d1f14170c201b520bc8a5ae9bc9cb832", func := "loop.example/stileway/laws.FnMonMove", spec := "fnMonMove", unfollowed := true, recurses := true, apart := false, narrowed := true }
def FnMonMoveUptoSaid : Prop := fnMonMoveUptoRow.holds Try.pinned (OpenSpec.upto fnMonMoveSpec)

/-- 'laws.FnMonTurn', WHERE WHAT IT READS IS OF BULK AT MOST 1048576: true; the input reads as it did. -/
def fnMonTurnUptoRow : OpenClaim := { program := "ytjdnengmllamcaa", sum := "f9a67c7758f137d2091bb16a5a30f659d1f14170c201b520bc8a5ae9bc9cb832", func := "loop.example/stileway/laws.FnMonTurn", spec := "fnMonTurn", apart := false, narrowed := true }
def FnMonTurnUptoSaid : Prop := fnMonTurnUptoRow.holds Try.pinned (OpenSpec.upto fnMonTurnSpec)

/-- 'laws.FnMonHas', WHERE WHAT IT READS IS OF BULK AT MOST 1048576: true; the input reads as it did. -/
def fnMonHasUptoRow : OpenClaim := { program := "ytjdnengmllamcaa", sum := "f9a67c7758f137d2091bb16a5a30f659d1f14170c201b520bc8a5ae9bc9cb832", func := "loop.example/stileway/laws.FnMonHas", spec := "fnMonHas", apart := false, narrowed := true }
def FnMonHasUptoSaid : Prop := fnMonHasUptoRow.holds Try.pinned (OpenSpec.upto fnMonHasSpec)

/-- 'laws.FnMonTwo', WHERE WHAT IT READS IS OF BULK AT MOST 1048576: true; the input reads as it did. -/
def fnMonTwoUptoRow : OpenClaim := { program := "ytjdnengmllamcaa", sum := "f9a67c7758f137d2091bb16a5a30f659d1f14170c201b520bc8a5ae9bc9cb832", func := "loop.example/stileway/laws.FnMonTwo", spec := "fnMonTwo", unfollowed := true, recurses := true, apart := false, narrowed := true }
def FnMonTwoUptoSaid : Prop := fnMonTwoUptoRow.holds Try.pinned (OpenSpec.upto fnMonTwoSpec)

/-- 'laws.FnExactOwnFits', WHERE WHAT IT READS IS OF BULK AT MOST 1048576: true; the input reads as it did. -/
def fnExactOwnFitsUptoRow : OpenClaim := { program := "ytjdnengmllamcaa", sum := "f9a67c7758f137d2091bb16a5a30f659d1f14170c201b520bc8a5ae9bc9cb832", func := "loop.example/stileway/laws.FnExactOwnFits", spec := "fnExactOwnFits", unfollowed := true, recurses := true, apart := false, narrowed := true }
def FnExactOwnFitsUptoSaid : Prop := fnExactOwnFitsUptoRow.holds Try.pinned (OpenSpec.upto fnExactOwnFitsSpec)

/-- 'laws.FnExactOwnPut', WHERE WHAT IT READS IS OF BULK AT MOST 1048576: true; the input reads as it did. -/
def fnExactOwnPutUptoRow : OpenClaim := { program := "ytjdnengmllamcaa", sum := "f9a67c7758f137d2091bb16a5a30f659d1f14170c201b520bc8a5ae9bc9cb832", func := "loop.example/stileway/laws.FnExactOwnPut", spec := "fnExactOwnPut", unfollowed := true, recurses := true, apart := false, narrowed := true }
def FnExactOwnPutUptoSaid : Prop := fnExactOwnPutUptoRow.holds Try.pinned (OpenSpec.upto fnExactOwnPutSpec)

/-- 'laws.FnExactOwnFold', WHERE WHAT IT READS IS OF BULK AT MOST 1048576: true; the input reads as it did. -/
def fnExactOwnFoldUptoRow : OpenClaim := { program := "ytjdnengmllamcaa", sum := "f9a67c7758f137d2091bb16a5a30f659d1f14170c201b520bc8a5ae9bc9cb832", func := "loop.example/stileway/laws.FnExactOwnFold", spec := "fnExactOwnFold", unfollowed := true, recurses := true, apart := false, narrowed := true }
def FnExactOwnFoldUptoSaid : Prop := fnExactOwnFoldUptoRow.holds Try.pinned (OpenSpec.upto fnExactOwnFoldSpec)

/-- 'laws.FnExactOwnRoot', WHERE WHAT IT READS IS OF BULK AT MOST 1048576: true; the input reads as it did. -/
def fnExactOwnRootUptoRow : OpenClaim := { program := "ytjdnengmllamcaa", sum := "f9a67c7758f137d2091bb16a5a30f659d1f14170c201b520bc8a5ae9bc9cb832", func := "loop.example/stileway/laws.FnExactOwnRoot", spec := "fnExactOwnRoot", recurses := true, apart := false, narrowed := true }
def FnExactOwnRootUptoSaid : Prop := fnExactOwnRootUptoRow.holds Try.pinned (OpenSpec.upto fnExactOwnRootSpec)

/-- 'laws.FnExactOwnProof', WHERE WHAT IT READS IS OF BULK AT MOST 1048576: true; the input reads as it did. -/
def fnExactOwnProofUptoRow : OpenClaim := { program := "ytjdnengmllamcaa", sum := "f9a67c7758f137d2091bb16a5a30f659d1f14170c201b520bc8a5ae9bc9cb832", func := "loop.example/stileway/laws.FnExactOwnProof", spec := "fnExactOwnProof", unfollowed := true, recurses := true, apart := false, narrowed := true }
def FnExactOwnProofUptoSaid : Prop := fnExactOwnProofUptoRow.holds Try.pinned (OpenSpec.upto fnExactOwnProofSpec)

/-- 'laws.FnExactMonOk', WHERE WHAT IT READS IS OF BULK AT MOST 1048576: true; the input reads as it did. -/
def fnExactMonOkUptoRow : OpenClaim := { program := "ytjdnengmllamcaa", sum := "f9a67c7758f137d2091bb16a5a30f659d1f14170c201b520bc8a5ae9bc9cb832", func := "loop.example/stileway/laws.FnExactMonOk", spec := "fnExactMonOk", apart := false, narrowed := true }
def FnExactMonOkUptoSaid : Prop := fnExactMonOkUptoRow.holds Try.pinned (OpenSpec.upto fnExactMonOkSpec)

/-- 'laws.FnExactMonHas', WHERE WHAT IT READS IS OF BULK AT MOST 1048576: true; the input reads as it did. -/
def fnExactMonHasUptoRow : OpenClaim := { program := "ytjdnengmllamcaa", sum := "f9a67c7758f137d2091bb16a5a30f659d1f14170c201b520bc8a5ae9bc9cb832", func := "loop.example/stileway/laws.FnExactMonHas", spec := "fnExactMonHas", apart := false, narrowed := true }
def FnExactMonHasUptoSaid : Prop := fnExactMonHasUptoRow.holds Try.pinned (OpenSpec.upto fnExactMonHasSpec)

/-- 'laws.FnExactMonTurn', WHERE WHAT IT READS IS OF BULK AT MOST 1048576: true; the input reads as it did. -/
def fnExactMonTurnUptoRow : OpenClaim := { program := "ytjdnengmllamcaa", sum := "f9a67c7758f137d2091bb16a5a30f659d1f14170c201b520bc8a5ae9bc9cb832", func := "loop.example/stileway/laws.FnExactMonTurn", spec := "fnExactMonTurn", apart := false, narrowed := true }
def FnExactMonTurnUptoSaid : Prop := fnExactMonTurnUptoRow.holds Try.pinned (OpenSpec.upto fnExactMonTurnSpec)

/-- 'laws.FnExactMonMove', WHERE WHAT IT READS IS OF BULK AT MOST 1048576: true; the input reads as it did. -/
def fnExactMonMoveUptoRow : OpenClaim := { program := "ytjdnengmllamcaa", sum := "f9a67c7758f137d2091bb16a5a30f659d1f14170c201b520bc8a5ae9bc9cb832", func := "loop.example/stileway/laws.FnExactMonMove", spec := "fnExactMonMove", unfollowed := true, recurses := true, apart := false, narrowed := true }
def FnExactMonMoveUptoSaid : Prop := fnExactMonMoveUptoRow.holds Try.pinned (OpenSpec.upto fnExactMonMoveSpec)

/-- 'laws.FnExactMonSum', WHERE WHAT IT READS IS OF BULK AT MOST 1048576: true; the input reads as it did. -/
def fnExactMonSumUptoRow : OpenClaim := { program := "ytjdnengmllamcaa", sum := "f9a67c7758f137d2091bb16a5a30f659d1f14170c201b520bc8a5ae9bc9cb832", func := "loop.example/stileway/laws.FnExactMonSum", spec := "fnExactMonSum", apart := false, narrowed := true }
def FnExactMonSumUptoSaid : Prop := fnExactMonSumUptoRow.holds Try.pinned (OpenSpec.upto fnExactMonSumSpec)

end Rows
end Go.Proofs.Ytjdnengmllamcaa
