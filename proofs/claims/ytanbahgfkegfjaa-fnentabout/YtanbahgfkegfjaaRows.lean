/-
  No cell of these rows narrows 'for every input' (looked for: loops, veiled, ifaces, maps, wideKeys, modest, calm, conditions, laid).
  DERIVED. THE GIVEN ROWS OF THIS SEAT. 24 by the template 'for every input the law returns true; each argument reads behind the call as it read before'; 0 by the template 'total and deterministic' (their statements: YtanbahgfkegfjaaTotals.lean).
  GIVEN WITH THE SEED: the statements are not yours to turn. If you find one false, say at which input.
  Laid BY PROGRAM, IN A SANDBOX (cutbox-rows.mjs): the forced cells as the released guide's own fill.sh prints them over the translation 3ddccf71f02ffadd… (all of the seat's roots in one cut). By AI agents, Wed Nov 11 2026. No macro, syntax, notation, axiom, sorry.
-/
import Derived.Test.YtanbahgfkegfjaaChecked
import GoSem.Claim
import GoSem.ClaimJoined
import GoSem.ClaimMapViews
import Derived.JoinedTies
import Derived.KernelRfl
namespace Go.Proofs.Ytanbahgfkegfjaa
/- THE CELL 'sum', in the pinned program and in every row, IS THE sha256 OF THE DUMP (.gsa) THAT YtanbahgfkegfjaaProg.lean LOADS. Nothing in Lean hashes anything: it is a label: what it is worth is what the hold of that sum in a sandbox is worth. -/
noncomputable def Try.pinned : Pinned := { name := "ytanbahgfkegfjaa", sum := "3ddccf71f02ffadd4c5556f1242aaea6f7208c12e8f65ccb1f221417c9141371", checked := Try.checked }
namespace Rows
def none {H : Type} : Left H := { results := [], args := [] }

/-- 'laws.FnEntLeaf': WHATEVER THE INPUT: true; the input reads as it did. -/
def fnEntLeafSpec : ChangeSpec := { name := "fnEntLeaf", fn := fun _ => fun
  | [d1, d2] => { results := [.lit (.bool true)], args := [d1, d2] }
  | _ => none }
def fnEntLeafRow : OpenClaim := { program := "ytanbahgfkegfjaa", sum := "3ddccf71f02ffadd4c5556f1242aaea6f7208c12e8f65ccb1f221417c9141371", func := "loop.example/stileway/laws.FnEntLeaf", spec := "fnEntLeaf", plainKeys := false, apart := false }
def FnEntLeafSaid : Prop := fnEntLeafRow.holds Try.pinned (OpenSpec.ofChange fnEntLeafSpec)

/-- ITS FALSE NEIGHBOUR: 'it returns false'. Refute it at one input. -/
def fnEntLeafWrong : ChangeSpec := { name := "fnEntLeaf", fn := fun _ => fun
  | [d1, d2] => { results := [.lit (.bool false)], args := [d1, d2] }
  | _ => none }
def FnEntLeafWrongFalsely : Prop := fnEntLeafRow.holds Try.pinned (OpenSpec.ofChange fnEntLeafWrong)

/-- 'laws.FnEntAbout': WHATEVER THE INPUT: true; the input reads as it did. -/
def fnEntAboutSpec : ChangeSpec := { name := "fnEntAbout", fn := fun _ => fun
  | [d] => { results := [.lit (.bool true)], args := [d] }
  | _ => none }
def fnEntAboutRow : OpenClaim := { program := "ytanbahgfkegfjaa", sum := "3ddccf71f02ffadd4c5556f1242aaea6f7208c12e8f65ccb1f221417c9141371", func := "loop.example/stileway/laws.FnEntAbout", spec := "fnEntAbout", plainKeys := false, apart := false }
def FnEntAboutSaid : Prop := fnEntAboutRow.holds Try.pinned (OpenSpec.ofChange fnEntAboutSpec)

/-- ITS FALSE NEIGHBOUR: 'it returns false'. Refute it at one input. -/
def fnEntAboutWrong : ChangeSpec := { name := "fnEntAbout", fn := fun _ => fun
  | [d] => { results := [.lit (.bool false)], args := [d] }
  | _ => none }
def FnEntAboutWrongFalsely : Prop := fnEntAboutRow.holds Try.pinned (OpenSpec.ofChange fnEntAboutWrong)

/-- 'laws.FnOwnFits': WHATEVER THE INPUT: true; the input reads as it did. -/
def fnOwnFitsSpec : ChangeSpec := { name := "fnOwnFits", fn := fun _ => fun
  | [d] => { results := [.lit (.bool true)], args := [d] }
  | _ => none }
def fnOwnFitsRow : OpenClaim := { program := "ytanbahgfkegfjaa", sum := "3ddccf71f02ffadd4c5556f1242aaea6f7208c12e8f65ccb1f221417c9141371", func := "loop.example/stileway/laws.FnOwnFits", spec := "fnOwnFits", unfollowed := true, recurses := true, plainKeys := false, apart := false }
def FnOwnFitsSaid : Prop := fnOwnFitsRow.holds Try.pinned (OpenSpec.ofChange fnOwnFitsSpec)

/-- ITS FALSE NEIGHBOUR: 'it returns false'. Refute it at one input. -/
def fnOwnFitsWrong : ChangeSpec := { name := "fnOwnFits", fn := fun _ => fun
  | [d] => { results := [.lit (.bool false)], args := [d] }
  | _ => none }
def FnOwnFitsWrongFalsely : Prop := fnOwnFitsRow.holds Try.pinned (OpenSpec.ofChange fnOwnFitsWrong)

/-- 'laws.FnOwnPut': WHATEVER THE INPUT: true; the input reads as it did. -/
def fnOwnPutSpec : ChangeSpec := { name := "fnOwnPut", fn := fun _ => fun
  | [d] => { results := [.lit (.bool true)], args := [d] }
  | _ => none }
def fnOwnPutRow : OpenClaim := { program := "ytanbahgfkegfjaa", sum := "3ddccf71f02ffadd4c5556f1242aaea6f7208c12e8f65ccb1f221417c9141371", func := "loop.example/stileway/laws.FnOwnPut", spec := "fnOwnPut", unfollowed := true, recurses := true, plainKeys := false, apart := false }
def FnOwnPutSaid : Prop := fnOwnPutRow.holds Try.pinned (OpenSpec.ofChange fnOwnPutSpec)

/-- ITS FALSE NEIGHBOUR: 'it returns false'. Refute it at one input. -/
def fnOwnPutWrong : ChangeSpec := { name := "fnOwnPut", fn := fun _ => fun
  | [d] => { results := [.lit (.bool false)], args := [d] }
  | _ => none }
def FnOwnPutWrongFalsely : Prop := fnOwnPutRow.holds Try.pinned (OpenSpec.ofChange fnOwnPutWrong)

/-- 'laws.FnOwnFold': WHATEVER THE INPUT: true; the input reads as it did. -/
def fnOwnFoldSpec : ChangeSpec := { name := "fnOwnFold", fn := fun _ => fun
  | [d] => { results := [.lit (.bool true)], args := [d] }
  | _ => none }
def fnOwnFoldRow : OpenClaim := { program := "ytanbahgfkegfjaa", sum := "3ddccf71f02ffadd4c5556f1242aaea6f7208c12e8f65ccb1f221417c9141371", func := "loop.example/stileway/laws.FnOwnFold", spec := "fnOwnFold", unfollowed := true, recurses := true, plainKeys := false, apart := false }
def FnOwnFoldSaid : Prop := fnOwnFoldRow.holds Try.pinned (OpenSpec.ofChange fnOwnFoldSpec)

/-- ITS FALSE NEIGHBOUR: 'it returns false'. Refute it at one input. -/
def fnOwnFoldWrong : ChangeSpec := { name := "fnOwnFold", fn := fun _ => fun
  | [d] => { results := [.lit (.bool false)], args := [d] }
  | _ => none }
def FnOwnFoldWrongFalsely : Prop := fnOwnFoldRow.holds Try.pinned (OpenSpec.ofChange fnOwnFoldWrong)

/-- 'laws.FnOwnOnce': WHATEVER THE INPUT: true; the input reads as it did. -/
def fnOwnOnceSpec : ChangeSpec := { name := "fnOwnOnce", fn := fun _ => fun
  | [d] => { results := [.lit (.bool true)], args := [d] }
  | _ => none }
def fnOwnOnceRow : OpenClaim := { program := "ytanbahgfkegfjaa", sum := "3ddccf71f02ffadd4c5556f1242aaea6f7208c12e8f65ccb1f221417c9141371", func := "loop.example/stileway/laws.FnOwnOnce", spec := "fnOwnOnce", unfollowed := true, recurses := true, plainKeys := false, apart := false }
def FnOwnOnceSaid : Prop := fnOwnOnceRow.holds Try.pinned (OpenSpec.ofChange fnOwnOnceSpec)

/-- ITS FALSE NEIGHBOUR: 'it returns false'. Refute it at one input. -/
def fnOwnOnceWrong : ChangeSpec := { name := "fnOwnOnce", fn := fun _ => fun
  | [d] => { results := [.lit (.bool false)], args := [d] }
  | _ => none }
def FnOwnOnceWrongFalsely : Prop := fnOwnOnceRow.holds Try.pinned (OpenSpec.ofChange fnOwnOnceWrong)

/-- 'laws.FnOwnRoot': WHATEVER THE INPUT: true; the input reads as it did. -/
def fnOwnRootSpec : ChangeSpec := { name := "fnOwnRoot", fn := fun _ => fun
  | [d] => { results := [.lit (.bool true)], args := [d] }
  | _ => none }
def fnOwnRootRow : OpenClaim := { program := "ytanbahgfkegfjaa", sum := "3ddccf71f02ffadd4c5556f1242aaea6f7208c12e8f65ccb1f221417c9141371", func := "loop.example/stileway/laws.FnOwnRoot", spec := "fnOwnRoot", unfollowed := true, recurses := true, plainKeys := false, apart := false }
def FnOwnRootSaid : Prop := fnOwnRootRow.holds Try.pinned (OpenSpec.ofChange fnOwnRootSpec)

/-- ITS FALSE NEIGHBOUR: 'it returns false'. Refute it at one input. -/
def fnOwnRootWrong : ChangeSpec := { name := "fnOwnRoot", fn := fun _ => fun
  | [d] => { results := [.lit (.bool false)], args := [d] }
  | _ => none }
def FnOwnRootWrongFalsely : Prop := fnOwnRootRow.holds Try.pinned (OpenSpec.ofChange fnOwnRootWrong)

/-- 'laws.FnOwnCheck': WHATEVER THE INPUT: true; the input reads as it did. -/
def fnOwnCheckSpec : ChangeSpec := { name := "fnOwnCheck", fn := fun _ => fun
  | [d1, d2] => { results := [.lit (.bool true)], args := [d1, d2] }
  | _ => none }
def fnOwnCheckRow : OpenClaim := { program := "ytanbahgfkegfjaa", sum := "3ddccf71f02ffadd4c5556f1242aaea6f7208c12e8f65ccb1f221417c9141371", func := "loop.example/stileway/laws.FnOwnCheck", spec := "fnOwnCheck", recurses := true, plainKeys := false, apart := false }
def FnOwnCheckSaid : Prop := fnOwnCheckRow.holds Try.pinned (OpenSpec.ofChange fnOwnCheckSpec)

/-- ITS FALSE NEIGHBOUR: 'it returns false'. Refute it at one input. -/
def fnOwnCheckWrong : ChangeSpec := { name := "fnOwnCheck", fn := fun _ => fun
  | [d1, d2] => { results := [.lit (.bool false)], args := [d1, d2] }
  | _ => none }
def FnOwnCheckWrongFalsely : Prop := fnOwnCheckRow.holds Try.pinned (OpenSpec.ofChange fnOwnCheckWrong)

/-- 'laws.FnOwnOf': WHATEVER THE INPUT: true; the input reads as it did. -/
def fnOwnOfSpec : ChangeSpec := { name := "fnOwnOf", fn := fun _ => fun
  | [d] => { results := [.lit (.bool true)], args := [d] }
  | _ => none }
def fnOwnOfRow : OpenClaim := { program := "ytanbahgfkegfjaa", sum := "3ddccf71f02ffadd4c5556f1242aaea6f7208c12e8f65ccb1f221417c9141371", func := "loop.example/stileway/laws.FnOwnOf", spec := "fnOwnOf", plainKeys := false, apart := false }
def FnOwnOfSaid : Prop := fnOwnOfRow.holds Try.pinned (OpenSpec.ofChange fnOwnOfSpec)

/-- ITS FALSE NEIGHBOUR: 'it returns false'. Refute it at one input. -/
def fnOwnOfWrong : ChangeSpec := { name := "fnOwnOf", fn := fun _ => fun
  | [d] => { results := [.lit (.bool false)], args := [d] }
  | _ => none }
def FnOwnOfWrongFalsely : Prop := fnOwnOfRow.holds Try.pinned (OpenSpec.ofChange fnOwnOfWrong)

/-- 'laws.FnHedOf': WHATEVER THE INPUT: true; the input reads as it did. -/
def fnHedOfSpec : ChangeSpec := { name := "fnHedOf", fn := fun _ => fun
  | [d1, d2] => { results := [.lit (.bool true)], args := [d1, d2] }
  | _ => none }
def fnHedOfRow : OpenClaim := { program := "ytanbahgfkegfjaa", sum := "3ddccf71f02ffadd4c5556f1242aaea6f7208c12e8f65ccb1f221417c9141371", func := "loop.example/stileway/laws.FnHedOf", spec := "fnHedOf", unfollowed := true, recurses := true, plainKeys := false, apart := false }
def FnHedOfSaid : Prop := fnHedOfRow.holds Try.pinned (OpenSpec.ofChange fnHedOfSpec)

/-- ITS FALSE NEIGHBOUR: 'it returns false'. Refute it at one input. -/
def fnHedOfWrong : ChangeSpec := { name := "fnHedOf", fn := fun _ => fun
  | [d1, d2] => { results := [.lit (.bool false)], args := [d1, d2] }
  | _ => none }
def FnHedOfWrongFalsely : Prop := fnHedOfRow.holds Try.pinned (OpenSpec.ofChange fnHedOfWrong)

/-- 'laws.FnHedFollows': WHATEVER THE INPUT: true; the input reads as it did. -/
def fnHedFollowsSpec : ChangeSpec := { name := "fnHedFollows", fn := fun _ => fun
  | [d1, d2] => { results := [.lit (.bool true)], args := [d1, d2] }
  | _ => none }
def fnHedFollowsRow : OpenClaim := { program := "ytanbahgfkegfjaa", sum := "3ddccf71f02ffadd4c5556f1242aaea6f7208c12e8f65ccb1f221417c9141371", func := "loop.example/stileway/laws.FnHedFollows", spec := "fnHedFollows", unfollowed := true, recurses := true, plainKeys := false, apart := false }
def FnHedFollowsSaid : Prop := fnHedFollowsRow.holds Try.pinned (OpenSpec.ofChange fnHedFollowsSpec)

/-- ITS FALSE NEIGHBOUR: 'it returns false'. Refute it at one input. -/
def fnHedFollowsWrong : ChangeSpec := { name := "fnHedFollows", fn := fun _ => fun
  | [d1, d2] => { results := [.lit (.bool false)], args := [d1, d2] }
  | _ => none }
def FnHedFollowsWrongFalsely : Prop := fnHedFollowsRow.holds Try.pinned (OpenSpec.ofChange fnHedFollowsWrong)

/-- 'laws.FnHedFork': WHATEVER THE INPUT: true; the input reads as it did. -/
def fnHedForkSpec : ChangeSpec := { name := "fnHedFork", fn := fun _ => fun
  | [d1, d2] => { results := [.lit (.bool true)], args := [d1, d2] }
  | _ => none }
def fnHedForkRow : OpenClaim := { program := "ytanbahgfkegfjaa", sum := "3ddccf71f02ffadd4c5556f1242aaea6f7208c12e8f65ccb1f221417c9141371", func := "loop.example/stileway/laws.FnHedFork", spec := "fnHedFork", unfollowed := true, recurses := true, plainKeys := false, apart := false }
def FnHedForkSaid : Prop := fnHedForkRow.holds Try.pinned (OpenSpec.ofChange fnHedForkSpec)

/-- ITS FALSE NEIGHBOUR: 'it returns false'. Refute it at one input. -/
def fnHedForkWrong : ChangeSpec := { name := "fnHedFork", fn := fun _ => fun
  | [d1, d2] => { results := [.lit (.bool false)], args := [d1, d2] }
  | _ => none }
def FnHedForkWrongFalsely : Prop := fnHedForkRow.holds Try.pinned (OpenSpec.ofChange fnHedForkWrong)

/-- 'laws.FnExactMktOk': WHATEVER THE INPUT: true; the input reads as it did. -/
def fnExactMktOkSpec : ChangeSpec := { name := "fnExactMktOk", fn := fun _ => fun
  | [d] => { results := [.lit (.bool true)], args := [d] }
  | _ => none }
def fnExactMktOkRow : OpenClaim := { program := "ytanbahgfkegfjaa", sum := "3ddccf71f02ffadd4c5556f1242aaea6f7208c12e8f65ccb1f221417c9141371", func := "loop.example/stileway/laws.FnExactMktOk", spec := "fnExactMktOk", unfollowed := true, recurses := true, plainKeys := false, apart := false }
def FnExactMktOkSaid : Prop := fnExactMktOkRow.holds Try.pinned (OpenSpec.ofChange fnExactMktOkSpec)

/-- ITS FALSE NEIGHBOUR: 'it returns false'. Refute it at one input. -/
def fnExactMktOkWrong : ChangeSpec := { name := "fnExactMktOk", fn := fun _ => fun
  | [d] => { results := [.lit (.bool false)], args := [d] }
  | _ => none }
def FnExactMktOkWrongFalsely : Prop := fnExactMktOkRow.holds Try.pinned (OpenSpec.ofChange fnExactMktOkWrong)

/-- 'laws.FnExactMktRows': WHATEVER THE INPUT: true; the input reads as it did. -/
def fnExactMktRowsSpec : ChangeSpec := { name := "fnExactMktRows", fn := fun _ => fun
  | [d] => { results := [.lit (.bool true)], args := [d] }
  | _ => none }
def fnExactMktRowsRow : OpenClaim := { program := "ytanbahgfkegfjaa", sum := "3ddccf71f02ffadd4c5556f1242aaea6f7208c12e8f65ccb1f221417c9141371", func := "loop.example/stileway/laws.FnExactMktRows", spec := "fnExactMktRows", unfollowed := true, recurses := true, plainKeys := false, apart := false }
def FnExactMktRowsSaid : Prop := fnExactMktRowsRow.holds Try.pinned (OpenSpec.ofChange fnExactMktRowsSpec)

/-- ITS FALSE NEIGHBOUR: 'it returns false'. Refute it at one input. -/
def fnExactMktRowsWrong : ChangeSpec := { name := "fnExactMktRows", fn := fun _ => fun
  | [d] => { results := [.lit (.bool false)], args := [d] }
  | _ => none }
def FnExactMktRowsWrongFalsely : Prop := fnExactMktRowsRow.holds Try.pinned (OpenSpec.ofChange fnExactMktRowsWrong)

/-- 'laws.FnExactMktDealOf': WHATEVER THE INPUT: true; the input reads as it did. -/
def fnExactMktDealOfSpec : ChangeSpec := { name := "fnExactMktDealOf", fn := fun _ => fun
  | [d1, d2] => { results := [.lit (.bool true)], args := [d1, d2] }
  | _ => none }
def fnExactMktDealOfRow : OpenClaim := { program := "ytanbahgfkegfjaa", sum := "3ddccf71f02ffadd4c5556f1242aaea6f7208c12e8f65ccb1f221417c9141371", func := "loop.example/stileway/laws.FnExactMktDealOf", spec := "fnExactMktDealOf", unfollowed := true, recurses := true, plainKeys := false, apart := false }
def FnExactMktDealOfSaid : Prop := fnExactMktDealOfRow.holds Try.pinned (OpenSpec.ofChange fnExactMktDealOfSpec)

/-- ITS FALSE NEIGHBOUR: 'it returns false'. Refute it at one input. -/
def fnExactMktDealOfWrong : ChangeSpec := { name := "fnExactMktDealOf", fn := fun _ => fun
  | [d1, d2] => { results := [.lit (.bool false)], args := [d1, d2] }
  | _ => none }
def FnExactMktDealOfWrongFalsely : Prop := fnExactMktDealOfRow.holds Try.pinned (OpenSpec.ofChange fnExactMktDealOfWrong)

/-- 'laws.FnExactMktTick': WHATEVER THE INPUT: true; the input reads as it did. -/
def fnExactMktTickSpec : ChangeSpec := { name := "fnExactMktTick", fn := fun _ => fun
  | [d] => { results := [.lit (.bool true)], args := [d] }
  | _ => none }
def fnExactMktTickRow : OpenClaim := { program := "ytanbahgfkegfjaa", sum := "3ddccf71f02ffadd4c5556f1242aaea6f7208c12e8f65ccb1f221417c9141371", func := "loop.example/stileway/laws.FnExactMktTick", spec := "fnExactMktTick", unfollowed := true, recurses := true, plainKeys := false, apart := false }
def FnExactMktTickSaid : Prop := fnExactMktTickRow.holds Try.pinned (OpenSpec.ofChange fnExactMktTickSpec)

/-- ITS FALSE NEIGHBOUR: 'it returns false'. Refute it at one input. -/
def fnExactMktTickWrong : ChangeSpec := { name := "fnExactMktTick", fn := fun _ => fun
  | [d] => { results := [.lit (.bool false)], args := [d] }
  | _ => none }
def FnExactMktTickWrongFalsely : Prop := fnExactMktTickRow.holds Try.pinned (OpenSpec.ofChange fnExactMktTickWrong)

/-- 'laws.FnExactMktOffers': WHATEVER THE INPUT: true; the input reads as it did. -/
def fnExactMktOffersSpec : ChangeSpec := { name := "fnExactMktOffers", fn := fun _ => fun
  | [d] => { results := [.lit (.bool true)], args := [d] }
  | _ => none }
def fnExactMktOffersRow : OpenClaim := { program := "ytanbahgfkegfjaa", sum := "3ddccf71f02ffadd4c5556f1242aaea6f7208c12e8f65ccb1f221417c9141371", func := "loop.example/stileway/laws.FnExactMktOffers", spec := "fnExactMktOffers", plainKeys := false, apart := false }
def FnExactMktOffersSaid : Prop := fnExactMktOffersRow.holds Try.pinned (OpenSpec.ofChange fnExactMktOffersSpec)

/-- ITS FALSE NEIGHBOUR: 'it returns false'. Refute it at one input. -/
def fnExactMktOffersWrong : ChangeSpec := { name := "fnExactMktOffers", fn := fun _ => fun
  | [d] => { results := [.lit (.bool false)], args := [d] }
  | _ => none }
def FnExactMktOffersWrongFalsely : Prop := fnExactMktOffersRow.holds Try.pinned (OpenSpec.ofChange fnExactMktOffersWrong)

/-- 'laws.FnExactMktFor': WHATEVER THE INPUT: true; the input reads as it did. -/
def fnExactMktForSpec : ChangeSpec := { name := "fnExactMktFor", fn := fun _ => fun
  | [d1, d2] => { results := [.lit (.bool true)], args := [d1, d2] }
  | _ => none }
def fnExactMktForRow : OpenClaim := { program := "ytanbahgfkegfjaa", sum := "3ddccf71f02ffadd4c5556f1242aaea6f7208c12e8f65ccb1f221417c9141371", func := "loop.example/stileway/laws.FnExactMktFor", spec := "fnExactMktFor", plainKeys := false, apart := false }
def FnExactMktForSaid : Prop := fnExactMktForRow.holds Try.pinned (OpenSpec.ofChange fnExactMktForSpec)

/-- ITS FALSE NEIGHBOUR: 'it returns false'. Refute it at one input. -/
def fnExactMktForWrong : ChangeSpec := { name := "fnExactMktFor", fn := fun _ => fun
  | [d1, d2] => { results := [.lit (.bool false)], args := [d1, d2] }
  | _ => none }
def FnExactMktForWrongFalsely : Prop := fnExactMktForRow.holds Try.pinned (OpenSpec.ofChange fnExactMktForWrong)

/-- 'laws.FnExactHedOk': WHATEVER THE INPUT: true; the input reads as it did. -/
def fnExactHedOkSpec : ChangeSpec := { name := "fnExactHedOk", fn := fun _ => fun
  | [d] => { results := [.lit (.bool true)], args := [d] }
  | _ => none }
def fnExactHedOkRow : OpenClaim := { program := "ytanbahgfkegfjaa", sum := "3ddccf71f02ffadd4c5556f1242aaea6f7208c12e8f65ccb1f221417c9141371", func := "loop.example/stileway/laws.FnExactHedOk", spec := "fnExactHedOk", plainKeys := false, apart := false }
def FnExactHedOkSaid : Prop := fnExactHedOkRow.holds Try.pinned (OpenSpec.ofChange fnExactHedOkSpec)

/-- ITS FALSE NEIGHBOUR: 'it returns false'. Refute it at one input. -/
def fnExactHedOkWrong : ChangeSpec := { name := "fnExactHedOk", fn := fun _ => fun
  | [d] => { results := [.lit (.bool false)], args := [d] }
  | _ => none }
def FnExactHedOkWrongFalsely : Prop := fnExactHedOkRow.holds Try.pinned (OpenSpec.ofChange fnExactHedOkWrong)

/-- 'laws.FnExactHedOf': WHATEVER THE INPUT: true; the input reads as it did. -/
def fnExactHedOfSpec : ChangeSpec := { name := "fnExactHedOf", fn := fun _ => fun
  | [d] => { results := [.lit (.bool true)], args := [d] }
  | _ => none }
def fnExactHedOfRow : OpenClaim := { program := "ytanbahgfkegfjaa", sum := "3ddccf71f02ffadd4c5556f1242aaea6f7208c12e8f65ccb1f221417c9141371", func := "loop.example/stileway/laws.FnExactHedOf", spec := "fnExactHedOf", unfollowed := true, recurses := true, plainKeys := false, apart := false }
def FnExactHedOfSaid : Prop := fnExactHedOfRow.holds Try.pinned (OpenSpec.ofChange fnExactHedOfSpec)

/-- ITS FALSE NEIGHBOUR: 'it returns false'. Refute it at one input. -/
def fnExactHedOfWrong : ChangeSpec := { name := "fnExactHedOf", fn := fun _ => fun
  | [d] => { results := [.lit (.bool false)], args := [d] }
  | _ => none }
def FnExactHedOfWrongFalsely : Prop := fnExactHedOfRow.holds Try.pinned (OpenSpec.ofChange fnExactHedOfWrong)

/-- 'laws.FnExactHedFork': WHATEVER THE INPUT: true; the input reads as it did. -/
def fnExactHedForkSpec : ChangeSpec := { name := "fnExactHedFork", fn := fun _ => fun
  | [d1, d2] => { results := [.lit (.bool true)], args := [d1, d2] }
  | _ => none }
def fnExactHedForkRow : OpenClaim := { program := "ytanbahgfkegfjaa", sum := "3ddccf71f02ffadd4c5556f1242aaea6f7208c12e8f65ccb1f221417c9141371", func := "loop.example/stileway/laws.FnExactHedFork", spec := "fnExactHedFork", plainKeys := false, apart := false }
def FnExactHedForkSaid : Prop := fnExactHedForkRow.holds Try.pinned (OpenSpec.ofChange fnExactHedForkSpec)

/-- ITS FALSE NEIGHBOUR: 'it returns false'. Refute it at one input. -/
def fnExactHedForkWrong : ChangeSpec := { name := "fnExactHedFork", fn := fun _ => fun
  | [d1, d2] => { results := [.lit (.bool false)], args := [d1, d2] }
  | _ => none }
def FnExactHedForkWrongFalsely : Prop := fnExactHedForkRow.holds Try.pinned (OpenSpec.ofChange fnExactHedForkWrong)

/-- 'laws.FnExactHedFollows': WHATEVER THE INPUT: true; the input reads as it did. -/
def fnExactHedFollowsSpec : ChangeSpec := { name := "fnExactHedFollows", fn := fun _ => fun
  | [d1, d2, d3] => { results := [.lit (.bool true)], args := [d1, d2, d3] }
  | _ => none }
def fnExactHedFollowsRow : OpenClaim := { program := "ytanbahgfkegfjaa", sum := "3ddccf71f02ffadd4c5556f1242aaea6f7208c12e8f65ccb1f221417c9141371", func := "loop.example/stileway/laws.FnExactHedFollows", spec := "fnExactHedFollows", recurses := true, plainKeys := false, apart := false }
def FnExactHedFollowsSaid : Prop := fnExactHedFollowsRow.holds Try.pinned (OpenSpec.ofChange fnExactHedFollowsSpec)

/-- ITS FALSE NEIGHBOUR: 'it returns false'. Refute it at one input. -/
def fnExactHedFollowsWrong : ChangeSpec := { name := "fnExactHedFollows", fn := fun _ => fun
  | [d1, d2, d3] => { results := [.lit (.bool false)], args := [d1, d2, d3] }
  | _ => none }
def FnExactHedFollowsWrongFalsely : Prop := fnExactHedFollowsRow.holds Try.pinned (OpenSpec.ofChange fnExactHedFollowsWrong)

/-- 'laws.FnExactHedProof': WHATEVER THE INPUT: true; the input reads as it did. -/
def fnExactHedProofSpec : ChangeSpec := { name := "fnExactHedProof", fn := fun _ => fun
  | [d1, d2] => { results := [.lit (.bool true)], args := [d1, d2] }
  | _ => none }
def fnExactHedProofRow : OpenClaim := { program := "ytanbahgfkegfjaa", sum := "3ddccf71f02ffadd4c5556f1242aaea6f7208c12e8f65ccb1f221417c9141371", func := "loop.example/stileway/laws.FnExactHedProof", spec := "fnExactHedProof", recurses := true, plainKeys := false, apart := false }
def FnExactHedProofSaid : Prop := fnExactHedProofRow.holds Try.pinned (OpenSpec.ofChange fnExactHedProofSpec)

/-- ITS FALSE NEIGHBOUR: 'it returns false'. Refute it at one input. -/
def fnExactHedProofWrong : ChangeSpec := { name := "fnExactHedProof", fn := fun _ => fun
  | [d1, d2] => { results := [.lit (.bool false)], args := [d1, d2] }
  | _ => none }
def FnExactHedProofWrongFalsely : Prop := fnExactHedProofRow.holds Try.pinned (OpenSpec.ofChange fnExactHedProofWrong)

/-- 'laws.FnExactHedAt': WHATEVER THE INPUT: true; the input reads as it did. -/
def fnExactHedAtSpec : ChangeSpec := { name := "fnExactHedAt", fn := fun _ => fun
  | [d1, d2] => { results := [.lit (.bool true)], args := [d1, d2] }
  | _ => none }
def fnExactHedAtRow : OpenClaim := { program := "ytanbahgfkegfjaa", sum := "3ddccf71f02ffadd4c5556f1242aaea6f7208c12e8f65ccb1f221417c9141371", func := "loop.example/stileway/laws.FnExactHedAt", spec := "fnExactHedAt", unfollowed := true, recurses := true, plainKeys := false, apart := false }
def FnExactHedAtSaid : Prop := fnExactHedAtRow.holds Try.pinned (OpenSpec.ofChange fnExactHedAtSpec)

/-- ITS FALSE NEIGHBOUR: 'it returns false'. Refute it at one input. -/
def fnExactHedAtWrong : ChangeSpec := { name := "fnExactHedAt", fn := fun _ => fun
  | [d1, d2] => { results := [.lit (.bool false)], args := [d1, d2] }
  | _ => none }
def FnExactHedAtWrongFalsely : Prop := fnExactHedAtRow.holds Try.pinned (OpenSpec.ofChange fnExactHedAtWrong)

/- THE SECOND FORM. 'bulk': how many values and letters a reading holds, each counted each time it is reached (what is shared counts as often as it is met; a slice's spare places count too). A statement '..UptoSaid' is the law's where the arguments, and the package variables that the reading takes, are together of bulk at most 1048576: NARROWER than '..Said'. Prove '..Said' where nothing that the law and all that it calls make is longer than what came in: it says more and counts as full. Else prove '..UptoSaid'. A law counts once. -/
mutual
def uptoBulk {H : Type} : DataW H → Nat
  | .lit (.string bytes) => bytes.length + 1
  | .lit _ => 1
  | .nil => 1
  | .ptr d => uptoBulk d + 1
  | .slice elems spare => uptoBulkAll elems + uptoBulkAll spare + 1
  | .agg parts => uptoBulkAll parts + 1
  | .iface _ d => uptoBulk d + 1
  | .map entries => uptoBulkEntries entries + 1
  | .held _ => 1
def uptoBulkAll {H : Type} : List (DataW H) → Nat
  | [] => 0
  | d :: r => uptoBulk d + uptoBulkAll r
def uptoBulkEntries {H : Type} : List (Lit × DataW H) → Nat
  | [] => 0
  | x :: r => uptoBulkEntry x + uptoBulkEntries r
def uptoBulkEntry {H : Type} : Lit × DataW H → Nat
  | (.string bytes, d) => bytes.length + uptoBulk d + 1
  | (_, d) => uptoBulk d + 1
 end
def uptoSmall : (H : Type) → List (DataW H) → Bool := fun _ ds => decide (uptoBulkAll ds ≤ 1048576)
def OpenSpec.upto (s : _root_.Go.ChangeSpec) : _root_.Go.OpenSpec := { _root_.Go.OpenSpec.ofChange s with cond := some uptoSmall }

/-- 'laws.FnEntLeaf', WHERE WHAT IT READS IS OF BULK AT MOST 1048576: true; the input reads as it did. -/
def fnEntLeafUptoRow : OpenClaim := { program := "ytanbahgfkegfjaa", sum := "3ddccf71f02ffadd4c5556f1242aaea6f7208c12e8f65ccb1f221417c9141371", func := "loop.example/stileway/laws.FnEntLeaf", spec := "fnEntLeaf", plainKeys := false, apart := false, narrowed := true }
def FnEntLeafUptoSaid : Prop := fnEntLeafUptoRow.holds Try.pinned (OpenSpec.upto fnEntLeafSpec)

/-- 'laws.FnEntAbout', WHERE WHAT IT READS IS OF BULK AT MOST 1048576: true; the input reads as it did. -/
def fnEntAboutUptoRow : OpenClaim := { program := "ytanbahgfkegfjaa", sum := "3ddccf71f02ffadd4c5556f1242aaea6f7208c12e8f65ccb1f221417c9141371", func := "loop.example/stileway/laws.FnEntAbout", spec := "fnEntAbout", plainKeys := false, apart := false, narrowed := true }
def FnEntAboutUptoSaid : Prop := fnEntAboutUptoRow.holds Try.pinned (OpenSpec.upto fnEntAboutSpec)

/-- 'laws.FnOwnFits', WHERE WHAT IT READS IS OF BULK AT MOST 1048576: true; the input reads as it did. -/
def fnOwnFitsUptoRow : OpenClaim := { program := "ytanbahgfkegfjaa", sum := "3ddccf71f02ffadd4c5556f1242aaea6f7208c12e8f65ccb1f221417c9141371", func := "loop.example/stileway/laws.FnOwnFits", spec := "fnOwnFits", unfollowed := true, recurses := true, plainKeys := false, apart := false, narrowed := true }
def FnOwnFitsUptoSaid : Prop := fnOwnFitsUptoRow.holds Try.pinned (OpenSpec.upto fnOwnFitsSpec)

/-- 'laws.FnOwnPut', WHERE WHAT IT READS IS OF BULK AT MOST 1048576: true; the input reads as it did. -/
def fnOwnPutUptoRow : OpenClaim := { program := "ytanbahgfkegfjaa", sum := "3ddccf71f02ffadd4c5556f1242aaea6f7208c12e8f65ccb1f221417c9141371", func := "loop.example/stileway/laws.FnOwnPut", spec := "fnOwnPut", unfollowed := true, recurses := true, plainKeys := false, apart := false, narrowed := true }
def FnOwnPutUptoSaid : Prop := fnOwnPutUptoRow.holds Try.pinned (OpenSpec.upto fnOwnPutSpec)

/-- 'laws.FnOwnFold', WHERE WHAT IT READS IS OF BULK AT MOST 1048576: true; the input reads as it did. -/
def fnOwnFoldUptoRow : OpenClaim := { program := "ytanbahgfkegfjaa", sum := "3ddccf71f02ffadd4c5556f1242aaea6f7208c12e8f65ccb1f221417c9141371", func := "loop.example/stileway/laws.FnOwnFold", spec := "fnOwnFold", unfollowed := true, recurses := true, plainKeys := false, apart := false, narrowed := true }
def FnOwnFoldUptoSaid : Prop := fnOwnFoldUptoRow.holds Try.pinned (OpenSpec.upto fnOwnFoldSpec)

/-- 'laws.FnOwnOnce', WHERE WHAT IT READS IS OF BULK AT MOST 1048576: true; the input reads as it did. -/
def fnOwnOnceUptoRow : OpenClaim := { program := "ytanbahgfkegfjaa", sum := "3ddccf71f02ffadd4c5556f1242aaea6f7208c12e8f65ccb1f221417c9141371", func := "loop.example/stileway/laws.FnOwnOnce", spec := "fnOwnOnce", unfollowed := true, recurses := true, plainKeys := false, apart := false, narrowed := true }
def FnOwnOnceUptoSaid : Prop := fnOwnOnceUptoRow.holds Try.pinned (OpenSpec.upto fnOwnOnceSpec)

/-- 'laws.FnOwnRoot', WHERE WHAT IT READS IS OF BULK AT MOST 1048576: true; the input reads as it did. -/
def fnOwnRootUptoRow : OpenClaim := { program := "ytanbahgfkegfjaa", sum := "3ddccf71f02ffadd4c5556f1242aaea6f7208c12e8f65ccb1f221417c9141371", func := "loop.example/stileway/laws.FnOwnRoot", spec := "fnOwnRoot", unfollowed := true, recurses := true, plainKeys := false, apart := false, narrowed := true }
def FnOwnRootUptoSaid : Prop := fnOwnRootUptoRow.holds Try.pinned (OpenSpec.upto fnOwnRootSpec)

/-- 'laws.FnOwnCheck', WHERE WHAT IT READS IS OF BULK AT MOST 1048576: true; the input reads as it did. -/
def fnOwnCheckUptoRow : OpenClaim := { program := "ytanbahgfkegfjaa", sum := "3ddccf71f02ffadd4c5556f1242aaea6f7208c12e8f65ccb1f221417c9141371", func := "loop.example/stileway/laws.FnOwnCheck", spec := "fnOwnCheck", recurses := true, plainKeys := false, apart := false, narrowed := true }
def FnOwnCheckUptoSaid : Prop := fnOwnCheckUptoRow.holds Try.pinned (OpenSpec.upto fnOwnCheckSpec)

/-- 'laws.FnOwnOf', WHERE WHAT IT READS IS OF BULK AT MOST 1048576: true; the input reads as it did. -/
def fnOwnOfUptoRow : OpenClaim := { program := "ytanbahgfkegfjaa", sum := "3ddccf71f02ffadd4c5556f1242aaea6f7208c12e8f65ccb1f221417c9141371", func := "loop.example/stileway/laws.FnOwnOf", spec := "fnOwnOf", plainKeys := false, apart := false, narrowed := true }
def FnOwnOfUptoSaid : Prop := fnOwnOfUptoRow.holds Try.pinned (OpenSpec.upto fnOwnOfSpec)

/-- 'laws.FnHedOf', WHERE WHAT IT READS IS OF BULK AT MOST 1048576: true; the input reads as it did. -/
def fnHedOfUptoRow : OpenClaim := { program := "ytanbahgfkegfjaa", sum := "3ddccf71f02ffadd4c5556f1242aaea6f7208c12e8f65ccb1f221417c9141371", func := "loop.example/stileway/laws.FnHedOf", spec := "fnHedOf", unfollowed := true, recurses := true, plainKeys := false, apart := false, narrowed := true }
def FnHedOfUptoSaid : Prop := fnHedOfUptoRow.holds Try.pinned (OpenSpec.upto fnHedOfSpec)

/-- 'laws.FnHedFollows', WHERE WHAT IT READS IS OF BULK AT MOST 1048576: true; the input reads as it did. -/
def fnHedFollowsUptoRow : OpenClaim := { program := "ytanbahgfkegfjaa", sum := "3ddccf71f02ffadd4c5556f1242aaea6f7208c12e8f65ccb1f221417c9141371", func := "loop.example/stileway/laws.FnHedFollows", spec := "fnHedFollows", unfollowed := true, recurses := true, plainKeys := false, apart := false, narrowed := true }
def FnHedFollowsUptoSaid : Prop := fnHedFollowsUptoRow.holds Try.pinned (OpenSpec.upto fnHedFollowsSpec)

/-- 'laws.FnHedFork', WHERE WHAT IT READS IS OF BULK AT MOST 1048576: true; the input reads as it did. -/
def fnHedForkUptoRow : OpenClaim := { program := "ytanbahgfkegfjaa", sum := "3ddccf71f02ffadd4c5556f1242aaea6f7208c12e8f65ccb1f221417c9141371", func := "loop.example/stileway/laws.FnHedFork", spec := "fnHedFork", unfollowed := true, recurses := true, plainKeys := false, apart := false, narrowed := true }
def FnHedForkUptoSaid : Prop := fnHedForkUptoRow.holds Try.pinned (OpenSpec.upto fnHedForkSpec)

/-- 'laws.FnExactMktOk', WHERE WHAT IT READS IS OF BULK AT MOST 1048576: true; the input reads as it did. -/
def fnExactMktOkUptoRow : OpenClaim := { program := "ytanbahgfkegfjaa", sum := "3ddccf71f02ffadd4c5556f1242aaea6f7208c12e8f65ccb1f221417c9141371", func := "loop.example/stileway/laws.FnExactMktOk", spec := "fnExactMktOk", unfollowed := true, recurses := true, plainKeys := false, apart := false, narrowed := true }
def FnExactMktOkUptoSaid : Prop := fnExactMktOkUptoRow.holds Try.pinned (OpenSpec.upto fnExactMktOkSpec)

/-- 'laws.FnExactMktRows', WHERE WHAT IT READS IS OF BULK AT MOST 1048576: true; the input reads as it did. -/
def fnExactMktRowsUptoRow : OpenClaim := { program := "ytanbahgfkegfjaa", sum := "3ddccf71f02ffadd4c5556f1242aaea6f7208c12e8f65ccb1f221417c9141371", func := "loop.example/stileway/laws.FnExactMktRows", spec := "fnExactMktRows", unfollowed := true, recurses := true, plainKeys := false, apart := false, narrowed := true }
def FnExactMktRowsUptoSaid : Prop := fnExactMktRowsUptoRow.holds Try.pinned (OpenSpec.upto fnExactMktRowsSpec)

/-- 'laws.FnExactMktDealOf', WHERE WHAT IT READS IS OF BULK AT MOST 1048576: true; the input reads as it did. -/
def fnExactMktDealOfUptoRow : OpenClaim := { program := "ytanbahgfkegfjaa", sum := "3ddccf71f02ffadd4c5556f1242aaea6f7208c12e8f65ccb1f221417c9141371", func := "loop.example/stileway/laws.FnExactMktDealOf", spec := "fnExactMktDealOf", unfollowed := true, recurses := true, plainKeys := false, apart := false, narrowed := true }
def FnExactMktDealOfUptoSaid : Prop := fnExactMktDealOfUptoRow.holds Try.pinned (OpenSpec.upto fnExactMktDealOfSpec)

/-- 'laws.FnExactMktTick', WHERE WHAT IT READS IS OF BULK AT MOST 1048576: true; the input reads as it did. -/
def fnExactMktTickUptoRow : OpenClaim := { program := "ytanbahgfkegfjaa", sum := "3ddccf71f02ffadd4c5556f1242aaea6f7208c12e8f65ccb1f221417c9141371", func := "loop.example/stileway/laws.FnExactMktTick", spec := "fnExactMktTick", unfollowed := true, recurses := true, plainKeys := false, apart := false, narrowed := true }
def FnExactMktTickUptoSaid : Prop := fnExactMktTickUptoRow.holds Try.pinned (OpenSpec.upto fnExactMktTickSpec)

/-- 'laws.FnExactMktOffers', WHERE WHAT IT READS IS OF BULK AT MOST 1048576: true; the input reads as it did. -/
def fnExactMktOffersUptoRow : OpenClaim := { program := "ytanbahgfkegfjaa", sum := "3ddccf71f02ffadd4c5556f1242aaea6f7208c12e8f65ccb1f221417c9141371", func := "loop.example/stileway/laws.FnExactMktOffers", spec := "fnExactMktOffers", plainKeys := false, apart := false, narrowed := true }
def FnExactMktOffersUptoSaid : Prop := fnExactMktOffersUptoRow.holds Try.pinned (OpenSpec.upto fnExactMktOffersSpec)

/-- 'laws.FnExactMktFor', WHERE WHAT IT READS IS OF BULK AT MOST 1048576: true; the input reads as it did. -/
def fnExactMktForUptoRow : OpenClaim := { program := "ytanbahgfkegfjaa", sum := "3ddccf71f02ffadd4c5556f1242aaea6f7208c12e8f65ccb1f221417c9141371", func := "loop.example/stileway/laws.FnExactMktFor", spec := "fnExactMktFor", plainKeys := false, apart := false, narrowed := true }
def FnExactMktForUptoSaid : Prop := fnExactMktForUptoRow.holds Try.pinned (OpenSpec.upto fnExactMktForSpec)

/-- 'laws.FnExactHedOk', WHERE WHAT IT READS IS OF BULK AT MOST 1048576: true; the input reads as it did. -/
def fnExactHedOkUptoRow : OpenClaim := { program := "ytanbahgfkegfjaa", sum := "3ddccf71f02ffadd4c5556f1242aaea6f7208c12e8f65ccb1f221417c9141371", func := "loop.example/stileway/laws.FnExactHedOk", spec := "fnExactHedOk", plainKeys := false, apart := false, narrowed := true }
def FnExactHedOkUptoSaid : Prop := fnExactHedOkUptoRow.holds Try.pinned (OpenSpec.upto fnExactHedOkSpec)

/-- 'laws.FnExactHedOf', WHERE WHAT IT READS IS OF BULK AT MOST 1048576: true; the input reads as it did. -/
def fnExactHedOfUptoRow : OpenClaim := { program := "ytanbahgfkegfjaa", sum := "3ddccf71f02ffadd4c5556f1242aaea6f7208c12e8f65ccb1f221417c9141371", func := "loop.example/stileway/laws.FnExactHedOf", spec := "fnExactHedOf", unfollowed := true, recurses := true, plainKeys := false, apart := false, narrowed := true }
def FnExactHedOfUptoSaid : Prop := fnExactHedOfUptoRow.holds Try.pinned (OpenSpec.upto fnExactHedOfSpec)

/-- 'laws.FnExactHedFork', WHERE WHAT IT READS IS OF BULK AT MOST 1048576: true; the input reads as it did. -/
def fnExactHedForkUptoRow : OpenClaim := { program := "ytanbahgfkegfjaa", sum := "3ddccf71f02ffadd4c5556f1242aaea6f7208c12e8f65ccb1f221417c9141371", func := "loop.example/stileway/laws.FnExactHedFork", spec := "fnExactHedFork", plainKeys := false, apart := false, narrowed := true }
def FnExactHedForkUptoSaid : Prop := fnExactHedForkUptoRow.holds Try.pinned (OpenSpec.upto fnExactHedForkSpec)

/-- 'laws.FnExactHedFollows', WHERE WHAT IT READS IS OF BULK AT MOST 1048576: true; the input reads as it did. -/
def fnExactHedFollowsUptoRow : OpenClaim := { program := "ytanbahgfkegfjaa", sum := "3ddccf71f02ffadd4c5556f1242aaea6f7208c12e8f65ccb1f221417c9141371", func := "loop.example/stileway/laws.FnExactHedFollows", spec := "fnExactHedFollows", recurses := true, plainKeys := false, apart := false, narrowed := true }
def FnExactHedFollowsUptoSaid : Prop := fnExactHedFollowsUptoRow.holds Try.pinned (OpenSpec.upto fnExactHedFollowsSpec)

/-- 'laws.FnExactHedProof', WHERE WHAT IT READS IS OF BULK AT MOST 1048576: true; the input reads as it did. -/
def fnExactHedProofUptoRow : OpenClaim := { program := "ytanbahgfkegfjaa", sum := "3ddccf71f02ffadd4c5556f1242aaea6f7208c12e8f65ccb1f221417c9141371", func := "loop.example/stileway/laws.FnExactHedProof", spec := "fnExactHedProof", recurses := true, plainKeys := false, apart := false, narrowed := true }
def FnExactHedProofUptoSaid : Prop := fnExactHedProofUptoRow.holds Try.pinned (OpenSpec.upto fnExactHedProofSpec)

/-- 'laws.FnExactHedAt', WHERE WHAT IT READS IS OF BULK AT MOST 1048576: true; the input reads as it did. -/
def fnExactHedAtUptoRow : OpenClaim := { program := "ytanbahgfkegfjaa", sum := "3ddccf71f02ffadd4c5556f1242aaea6f7208c12e8f65ccb1f221417c9141371", func := "loop.example/stileway/laws.FnExactHedAt", spec := "fnExactHedAt", unfollowed := true, recurses := true, plainKeys := false, apart := false, narrowed := true }
def FnExactHedAtUptoSaid : Prop := fnExactHedAtUptoRow.holds Try.pinned (OpenSpec.upto fnExactHedAtSpec)

end Rows
end Go.Proofs.Ytanbahgfkegfjaa
