/-
  No cell of these rows narrows 'for every input' (looked for: loops, veiled, ifaces, maps, wideKeys, modest, calm, conditions, laid).
  DERIVED. THE GIVEN ROWS OF THIS SEAT. 24 by the template 'for every input the law returns true; each argument reads behind the call as it read before'; 0 by the template 'total and deterministic' (their statements: YtimaidcjccakeaaTotals.lean).
  GIVEN WITH THE SEED: the statements are not yours to turn. If you find one false, say at which input.
  Laid BY PROGRAM, IN A SANDBOX (cutbox-rows.mjs): the forced cells as the released guide's own fill.sh prints them over the translation d4a858c537afafd8… (all of the seat's roots in one cut). By AI agents, Wed Nov 11 2026. No macro, syntax, notation, axiom, sorry.
-/
import Derived.Test.YtimaidcjccakeaaChecked
import GoSem.Claim
import GoSem.ClaimJoined
import GoSem.ClaimMapViews
import Derived.JoinedTies
import Derived.KernelRfl
namespace Go.Proofs.Ytimaidcjccakeaa
/- THE CELL 'sum', in the pinned program and in every row, IS THE sha256 OF THE DUMP (.gsa) THAT YtimaidcjccakeaaProg.lean LOADS. Nothing in Lean hashes anything: it is a label: what it is worth is what the hold of that sum in a sandbox is worth. -/
noncomputable def Try.pinned : Pinned := { name := "ytimaidcjccakeaa", sum := "d4a858c537afafd850216c2039f29866d6a334da7ca57e357a1938d0df3afe8d", checked := Try.checked }
namespace Rows
def none {H : Type} : Left H := { results := [], args := [] }

/-- 'laws.FnEntLeaf': WHATEVER THE INPUT: true; the input reads as it did. -/
def fnEntLeafSpec : ChangeSpec := { name := "fnEntLeaf", fn := fun _ => fun
  | [d1, d2] => { results := [.lit (.bool true)], args := [d1, d2] }
  | _ => none }
def fnEntLeafRow : OpenClaim := { program := "ytimaidcjccakeaa", sum := "d4a858c537afafd850216c2039f29866d6a334da7ca57e357a1938d0df3afe8d", func := "loop.example/stileway/laws.FnEntLeaf", spec := "fnEntLeaf", plainKeys := false, apart := false }
def FnEntLeafSaid : Prop := fnEntLeafRow.holds Try.pinned (OpenSpec.ofChange fnEntLeafSpec)

/-- ITS FALSE NEIGHBOUR: 'it returns false'. Refute it at one input. -/
def fnEntLeafWrong : ChangeSpec := { name := "fnEntLeaf", fn := fun _ => fun
  | [d1, d2] => { results := [.lit (.bool false)], args := [d1, d2] }
  | _ => none }
def FnEntLeafWrongFalsely : Prop := fnEntLeafRow.holds Try.pinned (OpenSpec.ofChange fnEntLeafWrong)

/-- 'laws.FnOwnFits': WHATEVER THE INPUT: true; the input reads as it did. -/
def fnOwnFitsSpec : ChangeSpec := { name := "fnOwnFits", fn := fun _ => fun
  | [d] => { results := [.lit (.bool true)], args := [d] }
  | _ => none }
def fnOwnFitsRow : OpenClaim := { program := "ytimaidcjccakeaa", sum := "d4a858c537afafd850216c2039f29866d6a334da7ca57e357a1938d0df3afe8d", func := "loop.example/stileway/laws.FnOwnFits", spec := "fnOwnFits", unfollowed := true, recurses := true, plainKeys := false, apart := false }
def FnOwnFitsSaid : Prop := fnOwnFitsRow.holds Try.pinned (OpenSpec.ofChange fnOwnFitsSpec)

/-- ITS FALSE NEIGHBOUR: 'it returns false'. Refute it at one input. -/
def fnOwnFitsWrong : ChangeSpec := { name := "fnOwnFits", fn := fun _ => fun
  | [d] => { results := [.lit (.bool false)], args := [d] }
  | _ => none }
def FnOwnFitsWrongFalsely : Prop := fnOwnFitsRow.holds Try.pinned (OpenSpec.ofChange fnOwnFitsWrong)

/-- 'laws.FnOwnPut': WHATEVER THE INPUT: true; the input reads as it did. -/
def fnOwnPutSpec : ChangeSpec := { name := "fnOwnPut", fn := fun _ => fun
  | [d] => { results := [.lit (.bool true)], args := [d] }
  | _ => none }
def fnOwnPutRow : OpenClaim := { program := "ytimaidcjccakeaa", sum := "d4a858c537afafd850216c2039f29866d6a334da7ca57e357a1938d0df3afe8d", func := "loop.example/stileway/laws.FnOwnPut", spec := "fnOwnPut", unfollowed := true, recurses := true, plainKeys := false, apart := false }
def FnOwnPutSaid : Prop := fnOwnPutRow.holds Try.pinned (OpenSpec.ofChange fnOwnPutSpec)

/-- ITS FALSE NEIGHBOUR: 'it returns false'. Refute it at one input. -/
def fnOwnPutWrong : ChangeSpec := { name := "fnOwnPut", fn := fun _ => fun
  | [d] => { results := [.lit (.bool false)], args := [d] }
  | _ => none }
def FnOwnPutWrongFalsely : Prop := fnOwnPutRow.holds Try.pinned (OpenSpec.ofChange fnOwnPutWrong)

/-- 'laws.FnOwnOnce': WHATEVER THE INPUT: true; the input reads as it did. -/
def fnOwnOnceSpec : ChangeSpec := { name := "fnOwnOnce", fn := fun _ => fun
  | [d] => { results := [.lit (.bool true)], args := [d] }
  | _ => none }
def fnOwnOnceRow : OpenClaim := { program := "ytimaidcjccakeaa", sum := "d4a858c537afafd850216c2039f29866d6a334da7ca57e357a1938d0df3afe8d", func := "loop.example/stileway/laws.FnOwnOnce", spec := "fnOwnOnce", unfollowed := true, recurses := true, plainKeys := false, apart := false }
def FnOwnOnceSaid : Prop := fnOwnOnceRow.holds Try.pinned (OpenSpec.ofChange fnOwnOnceSpec)

/-- ITS FALSE NEIGHBOUR: 'it returns false'. Refute it at one input. -/
def fnOwnOnceWrong : ChangeSpec := { name := "fnOwnOnce", fn := fun _ => fun
  | [d] => { results := [.lit (.bool false)], args := [d] }
  | _ => none }
def FnOwnOnceWrongFalsely : Prop := fnOwnOnceRow.holds Try.pinned (OpenSpec.ofChange fnOwnOnceWrong)

/-- 'laws.FnOwnRoot': WHATEVER THE INPUT: true; the input reads as it did. -/
def fnOwnRootSpec : ChangeSpec := { name := "fnOwnRoot", fn := fun _ => fun
  | [d] => { results := [.lit (.bool true)], args := [d] }
  | _ => none }
def fnOwnRootRow : OpenClaim := { program := "ytimaidcjccakeaa", sum := "d4a858c537afafd850216c2039f29866d6a334da7ca57e357a1938d0df3afe8d", func := "loop.example/stileway/laws.FnOwnRoot", spec := "fnOwnRoot", unfollowed := true, recurses := true, plainKeys := false, apart := false }
def FnOwnRootSaid : Prop := fnOwnRootRow.holds Try.pinned (OpenSpec.ofChange fnOwnRootSpec)

/-- ITS FALSE NEIGHBOUR: 'it returns false'. Refute it at one input. -/
def fnOwnRootWrong : ChangeSpec := { name := "fnOwnRoot", fn := fun _ => fun
  | [d] => { results := [.lit (.bool false)], args := [d] }
  | _ => none }
def FnOwnRootWrongFalsely : Prop := fnOwnRootRow.holds Try.pinned (OpenSpec.ofChange fnOwnRootWrong)

/-- 'laws.FnOwnCheck': WHATEVER THE INPUT: true; the input reads as it did. -/
def fnOwnCheckSpec : ChangeSpec := { name := "fnOwnCheck", fn := fun _ => fun
  | [d1, d2] => { results := [.lit (.bool true)], args := [d1, d2] }
  | _ => none }
def fnOwnCheckRow : OpenClaim := { program := "ytimaidcjccakeaa", sum := "d4a858c537afafd850216c2039f29866d6a334da7ca57e357a1938d0df3afe8d", func := "loop.example/stileway/laws.FnOwnCheck", spec := "fnOwnCheck", recurses := true, plainKeys := false, apart := false }
def FnOwnCheckSaid : Prop := fnOwnCheckRow.holds Try.pinned (OpenSpec.ofChange fnOwnCheckSpec)

/-- ITS FALSE NEIGHBOUR: 'it returns false'. Refute it at one input. -/
def fnOwnCheckWrong : ChangeSpec := { name := "fnOwnCheck", fn := fun _ => fun
  | [d1, d2] => { results := [.lit (.bool false)], args := [d1, d2] }
  | _ => none }
def FnOwnCheckWrongFalsely : Prop := fnOwnCheckRow.holds Try.pinned (OpenSpec.ofChange fnOwnCheckWrong)

/-- 'laws.FnOwnOf': WHATEVER THE INPUT: true; the input reads as it did. -/
def fnOwnOfSpec : ChangeSpec := { name := "fnOwnOf", fn := fun _ => fun
  | [d] => { results := [.lit (.bool true)], args := [d] }
  | _ => none }
def fnOwnOfRow : OpenClaim := { program := "ytimaidcjccakeaa", sum := "d4a858c537afafd850216c2039f29866d6a334da7ca57e357a1938d0df3afe8d", func := "loop.example/stileway/laws.FnOwnOf", spec := "fnOwnOf", plainKeys := false, apart := false }
def FnOwnOfSaid : Prop := fnOwnOfRow.holds Try.pinned (OpenSpec.ofChange fnOwnOfSpec)

/-- ITS FALSE NEIGHBOUR: 'it returns false'. Refute it at one input. -/
def fnOwnOfWrong : ChangeSpec := { name := "fnOwnOf", fn := fun _ => fun
  | [d] => { results := [.lit (.bool false)], args := [d] }
  | _ => none }
def FnOwnOfWrongFalsely : Prop := fnOwnOfRow.holds Try.pinned (OpenSpec.ofChange fnOwnOfWrong)

/-- 'laws.FnHedOf': WHATEVER THE INPUT: true; the input reads as it did. -/
def fnHedOfSpec : ChangeSpec := { name := "fnHedOf", fn := fun _ => fun
  | [d1, d2] => { results := [.lit (.bool true)], args := [d1, d2] }
  | _ => none }
def fnHedOfRow : OpenClaim := { program := "ytimaidcjccakeaa", sum := "d4a858c537afafd850216c2039f29866d6a334da7ca57e357a1938d0df3afe8d", func := "loop.example/stileway/laws.FnHedOf", spec := "fnHedOf", unfollowed := true, recurses := true, plainKeys := false, apart := false }
def FnHedOfSaid : Prop := fnHedOfRow.holds Try.pinned (OpenSpec.ofChange fnHedOfSpec)

/-- ITS FALSE NEIGHBOUR: 'it returns false'. Refute it at one input. -/
def fnHedOfWrong : ChangeSpec := { name := "fnHedOf", fn := fun _ => fun
  | [d1, d2] => { results := [.lit (.bool false)], args := [d1, d2] }
  | _ => none }
def FnHedOfWrongFalsely : Prop := fnHedOfRow.holds Try.pinned (OpenSpec.ofChange fnHedOfWrong)

/-- 'laws.FnHedFollows': WHATEVER THE INPUT: true; the input reads as it did. -/
def fnHedFollowsSpec : ChangeSpec := { name := "fnHedFollows", fn := fun _ => fun
  | [d1, d2] => { results := [.lit (.bool true)], args := [d1, d2] }
  | _ => none }
def fnHedFollowsRow : OpenClaim := { program := "ytimaidcjccakeaa", sum := "d4a858c537afafd850216c2039f29866d6a334da7ca57e357a1938d0df3afe8d", func := "loop.example/stileway/laws.FnHedFollows", spec := "fnHedFollows", unfollowed := true, recurses := true, plainKeys := false, apart := false }
def FnHedFollowsSaid : Prop := fnHedFollowsRow.holds Try.pinned (OpenSpec.ofChange fnHedFollowsSpec)

/-- ITS FALSE NEIGHBOUR: 'it returns false'. Refute it at one input. -/
def fnHedFollowsWrong : ChangeSpec := { name := "fnHedFollows", fn := fun _ => fun
  | [d1, d2] => { results := [.lit (.bool false)], args := [d1, d2] }
  | _ => none }
def FnHedFollowsWrongFalsely : Prop := fnHedFollowsRow.holds Try.pinned (OpenSpec.ofChange fnHedFollowsWrong)

/-- 'laws.FnHedFork': WHATEVER THE INPUT: true; the input reads as it did. -/
def fnHedForkSpec : ChangeSpec := { name := "fnHedFork", fn := fun _ => fun
  | [d1, d2] => { results := [.lit (.bool true)], args := [d1, d2] }
  | _ => none }
def fnHedForkRow : OpenClaim := { program := "ytimaidcjccakeaa", sum := "d4a858c537afafd850216c2039f29866d6a334da7ca57e357a1938d0df3afe8d", func := "loop.example/stileway/laws.FnHedFork", spec := "fnHedFork", unfollowed := true, recurses := true, plainKeys := false, apart := false }
def FnHedForkSaid : Prop := fnHedForkRow.holds Try.pinned (OpenSpec.ofChange fnHedForkSpec)

/-- ITS FALSE NEIGHBOUR: 'it returns false'. Refute it at one input. -/
def fnHedForkWrong : ChangeSpec := { name := "fnHedFork", fn := fun _ => fun
  | [d1, d2] => { results := [.lit (.bool false)], args := [d1, d2] }
  | _ => none }
def FnHedForkWrongFalsely : Prop := fnHedForkRow.holds Try.pinned (OpenSpec.ofChange fnHedForkWrong)

/-- 'laws.FnExactWatOk': WHATEVER THE INPUT: true; the input reads as it did. -/
def fnExactWatOkSpec : ChangeSpec := { name := "fnExactWatOk", fn := fun _ => fun
  | [d] => { results := [.lit (.bool true)], args := [d] }
  | _ => none }
def fnExactWatOkRow : OpenClaim := { program := "ytimaidcjccakeaa", sum := "d4a858c537afafd850216c2039f29866d6a334da7ca57e357a1938d0df3afe8d", func := "loop.example/stileway/laws.FnExactWatOk", spec := "fnExactWatOk", plainKeys := false, apart := false }
def FnExactWatOkSaid : Prop := fnExactWatOkRow.holds Try.pinned (OpenSpec.ofChange fnExactWatOkSpec)

/-- ITS FALSE NEIGHBOUR: 'it returns false'. Refute it at one input. -/
def fnExactWatOkWrong : ChangeSpec := { name := "fnExactWatOk", fn := fun _ => fun
  | [d] => { results := [.lit (.bool false)], args := [d] }
  | _ => none }
def FnExactWatOkWrongFalsely : Prop := fnExactWatOkRow.holds Try.pinned (OpenSpec.ofChange fnExactWatOkWrong)

/-- 'laws.FnExactWatSee': WHATEVER THE INPUT: true; the input reads as it did. -/
def fnExactWatSeeSpec : ChangeSpec := { name := "fnExactWatSee", fn := fun _ => fun
  | [d1, d2] => { results := [.lit (.bool true)], args := [d1, d2] }
  | _ => none }
def fnExactWatSeeRow : OpenClaim := { program := "ytimaidcjccakeaa", sum := "d4a858c537afafd850216c2039f29866d6a334da7ca57e357a1938d0df3afe8d", func := "loop.example/stileway/laws.FnExactWatSee", spec := "fnExactWatSee", unfollowed := true, recurses := true, plainKeys := false, apart := false }
def FnExactWatSeeSaid : Prop := fnExactWatSeeRow.holds Try.pinned (OpenSpec.ofChange fnExactWatSeeSpec)

/-- ITS FALSE NEIGHBOUR: 'it returns false'. Refute it at one input. -/
def fnExactWatSeeWrong : ChangeSpec := { name := "fnExactWatSee", fn := fun _ => fun
  | [d1, d2] => { results := [.lit (.bool false)], args := [d1, d2] }
  | _ => none }
def FnExactWatSeeWrongFalsely : Prop := fnExactWatSeeRow.holds Try.pinned (OpenSpec.ofChange fnExactWatSeeWrong)

/-- 'laws.FnExactWatMeet': WHATEVER THE INPUT: true; the input reads as it did. -/
def fnExactWatMeetSpec : ChangeSpec := { name := "fnExactWatMeet", fn := fun _ => fun
  | [d1, d2] => { results := [.lit (.bool true)], args := [d1, d2] }
  | _ => none }
def fnExactWatMeetRow : OpenClaim := { program := "ytimaidcjccakeaa", sum := "d4a858c537afafd850216c2039f29866d6a334da7ca57e357a1938d0df3afe8d", func := "loop.example/stileway/laws.FnExactWatMeet", spec := "fnExactWatMeet", plainKeys := false, apart := false }
def FnExactWatMeetSaid : Prop := fnExactWatMeetRow.holds Try.pinned (OpenSpec.ofChange fnExactWatMeetSpec)

/-- ITS FALSE NEIGHBOUR: 'it returns false'. Refute it at one input. -/
def fnExactWatMeetWrong : ChangeSpec := { name := "fnExactWatMeet", fn := fun _ => fun
  | [d1, d2] => { results := [.lit (.bool false)], args := [d1, d2] }
  | _ => none }
def FnExactWatMeetWrongFalsely : Prop := fnExactWatMeetRow.holds Try.pinned (OpenSpec.ofChange fnExactWatMeetWrong)

/-- 'laws.FnExactWatAll': WHATEVER THE INPUT: true; the input reads as it did. -/
def fnExactWatAllSpec : ChangeSpec := { name := "fnExactWatAll", fn := fun _ => fun
  | [d1, d2] => { results := [.lit (.bool true)], args := [d1, d2] }
  | _ => none }
def fnExactWatAllRow : OpenClaim := { program := "ytimaidcjccakeaa", sum := "d4a858c537afafd850216c2039f29866d6a334da7ca57e357a1938d0df3afe8d", func := "loop.example/stileway/laws.FnExactWatAll", spec := "fnExactWatAll", unfollowed := true, recurses := true, plainKeys := false, apart := false }
def FnExactWatAllSaid : Prop := fnExactWatAllRow.holds Try.pinned (OpenSpec.ofChange fnExactWatAllSpec)

/-- ITS FALSE NEIGHBOUR: 'it returns false'. Refute it at one input. -/
def fnExactWatAllWrong : ChangeSpec := { name := "fnExactWatAll", fn := fun _ => fun
  | [d1, d2] => { results := [.lit (.bool false)], args := [d1, d2] }
  | _ => none }
def FnExactWatAllWrongFalsely : Prop := fnExactWatAllRow.holds Try.pinned (OpenSpec.ofChange fnExactWatAllWrong)

/-- 'laws.FnExactHedOk': WHATEVER THE INPUT: true; the input reads as it did. -/
def fnExactHedOkSpec : ChangeSpec := { name := "fnExactHedOk", fn := fun _ => fun
  | [d] => { results := [.lit (.bool true)], args := [d] }
  | _ => none }
def fnExactHedOkRow : OpenClaim := { program := "ytimaidcjccakeaa", sum := "d4a858c537afafd850216c2039f29866d6a334da7ca57e357a1938d0df3afe8d", func := "loop.example/stileway/laws.FnExactHedOk", spec := "fnExactHedOk", plainKeys := false, apart := false }
def FnExactHedOkSaid : Prop := fnExactHedOkRow.holds Try.pinned (OpenSpec.ofChange fnExactHedOkSpec)

/-- ITS FALSE NEIGHBOUR: 'it returns false'. Refute it at one input. -/
def fnExactHedOkWrong : ChangeSpec := { name := "fnExactHedOk", fn := fun _ => fun
  | [d] => { results := [.lit (.bool false)], args := [d] }
  | _ => none }
def FnExactHedOkWrongFalsely : Prop := fnExactHedOkRow.holds Try.pinned (OpenSpec.ofChange fnExactHedOkWrong)

/-- 'laws.FnExactHedOf': WHATEVER THE INPUT: true; the input reads as it did. -/
def fnExactHedOfSpec : ChangeSpec := { name := "fnExactHedOf", fn := fun _ => fun
  | [d] => { results := [.lit (.bool true)], args := [d] }
  | _ => none }
def fnExactHedOfRow : OpenClaim := { program := "ytimaidcjccakeaa", sum := "d4a858c537afafd850216c2039f29866d6a334da7ca57e357a1938d0df3afe8d", func := "loop.example/stileway/laws.FnExactHedOf", spec := "fnExactHedOf", unfollowed := true, recurses := true, plainKeys := false, apart := false }
def FnExactHedOfSaid : Prop := fnExactHedOfRow.holds Try.pinned (OpenSpec.ofChange fnExactHedOfSpec)

/-- ITS FALSE NEIGHBOUR: 'it returns false'. Refute it at one input. -/
def fnExactHedOfWrong : ChangeSpec := { name := "fnExactHedOf", fn := fun _ => fun
  | [d] => { results := [.lit (.bool false)], args := [d] }
  | _ => none }
def FnExactHedOfWrongFalsely : Prop := fnExactHedOfRow.holds Try.pinned (OpenSpec.ofChange fnExactHedOfWrong)

/-- 'laws.FnExactHedFork': WHATEVER THE INPUT: true; the input reads as it did. -/
def fnExactHedForkSpec : ChangeSpec := { name := "fnExactHedFork", fn := fun _ => fun
  | [d1, d2] => { results := [.lit (.bool true)], args := [d1, d2] }
  | _ => none }
def fnExactHedForkRow : OpenClaim := { program := "ytimaidcjccakeaa", sum := "d4a858c537afafd850216c2039f29866d6a334da7ca57e357a1938d0df3afe8d", func := "loop.example/stileway/laws.FnExactHedFork", spec := "fnExactHedFork", plainKeys := false, apart := false }
def FnExactHedForkSaid : Prop := fnExactHedForkRow.holds Try.pinned (OpenSpec.ofChange fnExactHedForkSpec)

/-- ITS FALSE NEIGHBOUR: 'it returns false'. Refute it at one input. -/
def fnExactHedForkWrong : ChangeSpec := { name := "fnExactHedFork", fn := fun _ => fun
  | [d1, d2] => { results := [.lit (.bool false)], args := [d1, d2] }
  | _ => none }
def FnExactHedForkWrongFalsely : Prop := fnExactHedForkRow.holds Try.pinned (OpenSpec.ofChange fnExactHedForkWrong)

/-- 'laws.FnExactHedFollows': WHATEVER THE INPUT: true; the input reads as it did. -/
def fnExactHedFollowsSpec : ChangeSpec := { name := "fnExactHedFollows", fn := fun _ => fun
  | [d1, d2, d3] => { results := [.lit (.bool true)], args := [d1, d2, d3] }
  | _ => none }
def fnExactHedFollowsRow : OpenClaim := { program := "ytimaidcjccakeaa", sum := "d4a858c537afafd850216c2039f29866d6a334da7ca57e357a1938d0df3afe8d", func := "loop.example/stileway/laws.FnExactHedFollows", spec := "fnExactHedFollows", recurses := true, plainKeys := false, apart := false }
def FnExactHedFollowsSaid : Prop := fnExactHedFollowsRow.holds Try.pinned (OpenSpec.ofChange fnExactHedFollowsSpec)

/-- ITS FALSE NEIGHBOUR: 'it returns false'. Refute it at one input. -/
def fnExactHedFollowsWrong : ChangeSpec := { name := "fnExactHedFollows", fn := fun _ => fun
  | [d1, d2, d3] => { results := [.lit (.bool false)], args := [d1, d2, d3] }
  | _ => none }
def FnExactHedFollowsWrongFalsely : Prop := fnExactHedFollowsRow.holds Try.pinned (OpenSpec.ofChange fnExactHedFollowsWrong)

/-- 'laws.FnExactHedProof': WHATEVER THE INPUT: true; the input reads as it did. -/
def fnExactHedProofSpec : ChangeSpec := { name := "fnExactHedProof", fn := fun _ => fun
  | [d1, d2] => { results := [.lit (.bool true)], args := [d1, d2] }
  | _ => none }
def fnExactHedProofRow : OpenClaim := { program := "ytimaidcjccakeaa", sum := "d4a858c537afafd850216c2039f29866d6a334da7ca57e357a1938d0df3afe8d", func := "loop.example/stileway/laws.FnExactHedProof", spec := "fnExactHedProof", recurses := true, plainKeys := false, apart := false }
def FnExactHedProofSaid : Prop := fnExactHedProofRow.holds Try.pinned (OpenSpec.ofChange fnExactHedProofSpec)

/-- ITS FALSE NEIGHBOUR: 'it returns false'. Refute it at one input. -/
def fnExactHedProofWrong : ChangeSpec := { name := "fnExactHedProof", fn := fun _ => fun
  | [d1, d2] => { results := [.lit (.bool false)], args := [d1, d2] }
  | _ => none }
def FnExactHedProofWrongFalsely : Prop := fnExactHedProofRow.holds Try.pinned (OpenSpec.ofChange fnExactHedProofWrong)

/-- 'laws.FnExactHedAt': WHATEVER THE INPUT: true; the input reads as it did. -/
def fnExactHedAtSpec : ChangeSpec := { name := "fnExactHedAt", fn := fun _ => fun
  | [d1, d2] => { results := [.lit (.bool true)], args := [d1, d2] }
  | _ => none }
def fnExactHedAtRow : OpenClaim := { program := "ytimaidcjccakeaa", sum := "d4a858c537afafd850216c2039f29866d6a334da7ca57e357a1938d0df3afe8d", func := "loop.example/stileway/laws.FnExactHedAt", spec := "fnExactHedAt", unfollowed := true, recurses := true, plainKeys := false, apart := false }
def FnExactHedAtSaid : Prop := fnExactHedAtRow.holds Try.pinned (OpenSpec.ofChange fnExactHedAtSpec)

/-- ITS FALSE NEIGHBOUR: 'it returns false'. Refute it at one input. -/
def fnExactHedAtWrong : ChangeSpec := { name := "fnExactHedAt", fn := fun _ => fun
  | [d1, d2] => { results := [.lit (.bool false)], args := [d1, d2] }
  | _ => none }
def FnExactHedAtWrongFalsely : Prop := fnExactHedAtRow.holds Try.pinned (OpenSpec.ofChange fnExactHedAtWrong)

/-- 'laws.FnExactGatNew': WHATEVER THE INPUT: true; the input reads as it did. -/
def fnExactGatNewSpec : ChangeSpec := { name := "fnExactGatNew", fn := fun _ => fun
  | [] => { results := [.lit (.bool true)], args := [] }
  | _ => none }
def fnExactGatNewRow : OpenClaim := { program := "ytimaidcjccakeaa", sum := "d4a858c537afafd850216c2039f29866d6a334da7ca57e357a1938d0df3afe8d", func := "loop.example/stileway/laws.FnExactGatNew", spec := "fnExactGatNew", unfollowed := true, recurses := true, plainKeys := false, apart := false }
def FnExactGatNewSaid : Prop := fnExactGatNewRow.holds Try.pinned (OpenSpec.ofChange fnExactGatNewSpec)

/-- ITS FALSE NEIGHBOUR: 'it returns false'. Refute it at one input. -/
def fnExactGatNewWrong : ChangeSpec := { name := "fnExactGatNew", fn := fun _ => fun
  | [] => { results := [.lit (.bool false)], args := [] }
  | _ => none }
def FnExactGatNewWrongFalsely : Prop := fnExactGatNewRow.holds Try.pinned (OpenSpec.ofChange fnExactGatNewWrong)

/-- 'laws.FnExactGatOk': WHATEVER THE INPUT: true; the input reads as it did. -/
def fnExactGatOkSpec : ChangeSpec := { name := "fnExactGatOk", fn := fun _ => fun
  | [d] => { results := [.lit (.bool true)], args := [d] }
  | _ => none }
def fnExactGatOkRow : OpenClaim := { program := "ytimaidcjccakeaa", sum := "d4a858c537afafd850216c2039f29866d6a334da7ca57e357a1938d0df3afe8d", func := "loop.example/stileway/laws.FnExactGatOk", spec := "fnExactGatOk", plainKeys := false, apart := false }
def FnExactGatOkSaid : Prop := fnExactGatOkRow.holds Try.pinned (OpenSpec.ofChange fnExactGatOkSpec)

/-- ITS FALSE NEIGHBOUR: 'it returns false'. Refute it at one input. -/
def fnExactGatOkWrong : ChangeSpec := { name := "fnExactGatOk", fn := fun _ => fun
  | [d] => { results := [.lit (.bool false)], args := [d] }
  | _ => none }
def FnExactGatOkWrongFalsely : Prop := fnExactGatOkRow.holds Try.pinned (OpenSpec.ofChange fnExactGatOkWrong)

/-- 'laws.FnExactGatThrough': WHATEVER THE INPUT: true; the input reads as it did. -/
def fnExactGatThroughSpec : ChangeSpec := { name := "fnExactGatThrough", fn := fun _ => fun
  | [d] => { results := [.lit (.bool true)], args := [d] }
  | _ => none }
def fnExactGatThroughRow : OpenClaim := { program := "ytimaidcjccakeaa", sum := "d4a858c537afafd850216c2039f29866d6a334da7ca57e357a1938d0df3afe8d", func := "loop.example/stileway/laws.FnExactGatThrough", spec := "fnExactGatThrough", unfollowed := true, recurses := true, plainKeys := false, apart := false }
def FnExactGatThroughSaid : Prop := fnExactGatThroughRow.holds Try.pinned (OpenSpec.ofChange fnExactGatThroughSpec)

/-- ITS FALSE NEIGHBOUR: 'it returns false'. Refute it at one input. -/
def fnExactGatThroughWrong : ChangeSpec := { name := "fnExactGatThrough", fn := fun _ => fun
  | [d] => { results := [.lit (.bool false)], args := [d] }
  | _ => none }
def FnExactGatThroughWrongFalsely : Prop := fnExactGatThroughRow.holds Try.pinned (OpenSpec.ofChange fnExactGatThroughWrong)

/-- 'laws.FnExactGatTimes': WHATEVER THE INPUT: true; the input reads as it did. -/
def fnExactGatTimesSpec : ChangeSpec := { name := "fnExactGatTimes", fn := fun _ => fun
  | [d1, d2] => { results := [.lit (.bool true)], args := [d1, d2] }
  | _ => none }
def fnExactGatTimesRow : OpenClaim := { program := "ytimaidcjccakeaa", sum := "d4a858c537afafd850216c2039f29866d6a334da7ca57e357a1938d0df3afe8d", func := "loop.example/stileway/laws.FnExactGatTimes", spec := "fnExactGatTimes", plainKeys := false, apart := false }
def FnExactGatTimesSaid : Prop := fnExactGatTimesRow.holds Try.pinned (OpenSpec.ofChange fnExactGatTimesSpec)

/-- ITS FALSE NEIGHBOUR: 'it returns false'. Refute it at one input. -/
def fnExactGatTimesWrong : ChangeSpec := { name := "fnExactGatTimes", fn := fun _ => fun
  | [d1, d2] => { results := [.lit (.bool false)], args := [d1, d2] }
  | _ => none }
def FnExactGatTimesWrongFalsely : Prop := fnExactGatTimesRow.holds Try.pinned (OpenSpec.ofChange fnExactGatTimesWrong)

/- THE SECOND FORM. 'bulk': how many values and letters a reading holds, each counted each time it is reached (what is shared counts as often as it is met; a slice's spare places count too). A statement '..UptoSaid' is the law's where the arguments, and the package variables that the reading takes, are together of bulk at most 1048576: NARROWER than '..Said'. Prove '..Said' where nothing that the law and all that it calls make is longer than what came in: it says more and counts as full. Else prove '..UptoSaid'. A law counts once. -/
mutual
def uptoBulk {H : Type} : DataW H → Nat
  | .lit (.string bytes) => bytes.length + 1
  | .lit _ => 1
  | .nil => 1
  | .ptr d => uptoBulk d + 1
  | .slice elems spare => uptoBulkAll elems + uptoBulkAll spare + 1
  | .agg parts => uptoBulkAll parts + 1
  | .iface _ d => uptoBulk d + 1
  | .map entries => uptoBulkEntries entries + 1
  | .held _ => 1
def uptoBulkAll {H : Type} : List (DataW H) → Nat
  | [] => 0
  | d :: r => uptoBulk d + uptoBulkAll r
def uptoBulkEntries {H : Type} : List (Lit × DataW H) → Nat
  | [] => 0
  | x :: r => uptoBulkEntry x + uptoBulkEntries r
def uptoBulkEntry {H : Type} : Lit × DataW H → Nat
  | (.string bytes, d) => bytes.length + uptoBulk d + 1
  | (_, d) => uptoBulk d + 1
 end
def uptoSmall : (H : Type) → List (DataW H) → Bool := fun _ ds => decide (uptoBulkAll ds ≤ 1048576)
def OpenSpec.upto (s : _root_.Go.ChangeSpec) : _root_.Go.OpenSpec := { _root_.Go.OpenSpec.ofChange s with cond := some uptoSmall }

/-- 'laws.FnEntLeaf', WHERE WHAT IT READS IS OF BULK AT MOST 1048576: true; the input reads as it did. -/
def fnEntLeafUptoRow : OpenClaim := { program := "ytimaidcjccakeaa", sum := "d4a858c537afafd850216c2039f29866d6a334da7ca57e357a1938d0df3afe8d", func := "loop.example/stileway/laws.FnEntLeaf", spec := "fnEntLeaf", plainKeys := false, apart := false, narrowed := true }
def FnEntLeafUptoSaid : Prop := fnEntLeafUptoRow.holds Try.pinned (OpenSpec.upto fnEntLeafSpec)

/-- 'laws.FnOwnFits', WHERE WHAT IT READS IS OF BULK AT MOST 1048576: true; the input reads as it did. -/
def fnOwnFitsUptoRow : OpenClaim := { program := "ytimaidcjccakeaa", sum := "d4a858c537afafd850216c2039f29866d6a334da7ca57e357a1938d0df3afe8d", func := "loop.example/stileway/laws.FnOwnFits", spec := "fnOwnFits", unfollowed := true, recurses := true, plainKeys := false, apart := false, narrowed := true }
def FnOwnFitsUptoSaid : Prop := fnOwnFitsUptoRow.holds Try.pinned (OpenSpec.upto fnOwnFitsSpec)

/-- 'laws.FnOwnPut', WHERE WHAT IT READS IS OF BULK AT MOST 1048576: true; the input reads as it did. -/
def fnOwnPutUptoRow : OpenClaim := { program := "ytimaidcjccakeaa", sum := "d4a858c537afafd850216c2039f29866d6a334da7ca57e357a1938d0df3afe8d", func := "loop.example/stileway/laws.FnOwnPut", spec := "fnOwnPut", unfollowed := true, recurses := true, plainKeys := false, apart := false, narrowed := true }
def FnOwnPutUptoSaid : Prop := fnOwnPutUptoRow.holds Try.pinned (OpenSpec.upto fnOwnPutSpec)

/-- 'laws.FnOwnOnce', WHERE WHAT IT READS IS OF BULK AT MOST 1048576: true; the input reads as it did. -/
def fnOwnOnceUptoRow : OpenClaim := { program := "ytimaidcjccakeaa", sum := "d4a858c537afafd850216c2039f29866d6a334da7ca57e357a1938d0df3afe8d", func := "loop.example/stileway/laws.FnOwnOnce", spec := "fnOwnOnce", unfollowed := true, recurses := true, plainKeys := false, apart := false, narrowed := true }
def FnOwnOnceUptoSaid : Prop := fnOwnOnceUptoRow.holds Try.pinned (OpenSpec.upto fnOwnOnceSpec)

/-- 'laws.FnOwnRoot', WHERE WHAT IT READS IS OF BULK AT MOST 1048576: true; the input reads as it did. -/
def fnOwnRootUptoRow : OpenClaim := { program := "ytimaidcjccakeaa", sum := "d4a858c537afafd850216c2039f29866d6a334da7ca57e357a1938d0df3afe8d", func := "loop.example/stileway/laws.FnOwnRoot", spec := "fnOwnRoot", unfollowed := true, recurses := true, plainKeys := false, apart := false, narrowed := true }
def FnOwnRootUptoSaid : Prop := fnOwnRootUptoRow.holds Try.pinned (OpenSpec.upto fnOwnRootSpec)

/-- 'laws.FnOwnCheck', WHERE WHAT IT READS IS OF BULK AT MOST 1048576: true; the input reads as it did. -/
def fnOwnCheckUptoRow : OpenClaim := { program := "ytimaidcjccakeaa", sum := "d4a858c537afafd850216c2039f29866d6a334da7ca57e357a1938d0df3afe8d", func := "loop.example/stileway/laws.FnOwnCheck", spec := "fnOwnCheck", recurses := true, plainKeys := false, apart := false, narrowed := true }
def FnOwnCheckUptoSaid : Prop := fnOwnCheckUptoRow.holds Try.pinned (OpenSpec.upto fnOwnCheckSpec)

/-- 'laws.FnOwnOf', WHERE WHAT IT READS IS OF BULK AT MOST 1048576: true; the input reads as it did. -/
def fnOwnOfUptoRow : OpenClaim := { program := "ytimaidcjccakeaa", sum := "d4a858c537afafd850216c2039f29866d6a334da7ca57e357a1938d0df3afe8d", func := "loop.example/stileway/laws.FnOwnOf", spec := "fnOwnOf", plainKeys := false, apart := false, narrowed := true }
def FnOwnOfUptoSaid : Prop := fnOwnOfUptoRow.holds Try.pinned (OpenSpec.upto fnOwnOfSpec)

/-- 'laws.FnHedOf', WHERE WHAT IT READS IS OF BULK AT MOST 1048576: true; the input reads as it did. -/
def fnHedOfUptoRow : OpenClaim := { program := "ytimaidcjccakeaa", sum := "d4a858c537afafd850216c2039f29866d6a334da7ca57e357a1938d0df3afe8d", func := "loop.example/stileway/laws.FnHedOf", spec := "fnHedOf", unfollowed := true, recurses := true, plainKeys := false, apart := false, narrowed := true }
def FnHedOfUptoSaid : Prop := fnHedOfUptoRow.holds Try.pinned (OpenSpec.upto fnHedOfSpec)

/-- 'laws.FnHedFollows', WHERE WHAT IT READS IS OF BULK AT MOST 1048576: true; the input reads as it did. -/
def fnHedFollowsUptoRow : OpenClaim := { program := "ytimaidcjccakeaa", sum := "d4a858c537afafd850216c2039f29866d6a334da7ca57e357a1938d0df3afe8d", func := "loop.example/stileway/laws.FnHedFollows", spec := "fnHedFollows", unfollowed := true, recurses := true, plainKeys := false, apart := false, narrowed := true }
def FnHedFollowsUptoSaid : Prop := fnHedFollowsUptoRow.holds Try.pinned (OpenSpec.upto fnHedFollowsSpec)

/-- 'laws.FnHedFork', WHERE WHAT IT READS IS OF BULK AT MOST 1048576: true; the input reads as it did. -/
def fnHedForkUptoRow : OpenClaim := { program := "ytimaidcjccakeaa", sum := "d4a858c537afafd850216c2039f29866d6a334da7ca57e357a1938d0df3afe8d", func := "loop.example/stileway/laws.FnHedFork", spec := "fnHedFork", unfollowed := true, recurses := true, plainKeys := false, apart := false, narrowed := true }
def FnHedForkUptoSaid : Prop := fnHedForkUptoRow.holds Try.pinned (OpenSpec.upto fnHedForkSpec)

/-- 'laws.FnExactWatOk', WHERE WHAT IT READS IS OF BULK AT MOST 1048576: true; the input reads as it did. -/
def fnExactWatOkUptoRow : OpenClaim := { program := "ytimaidcjccakeaa", sum := "d4a858c537afafd850216c2039f29866d6a334da7ca57e357a1938d0df3afe8d", func := "loop.example/stileway/laws.FnExactWatOk", spec := "fnExactWatOk", plainKeys := false, apart := false, narrowed := true }
def FnExactWatOkUptoSaid : Prop := fnExactWatOkUptoRow.holds Try.pinned (OpenSpec.upto fnExactWatOkSpec)

/-- 'laws.FnExactWatSee', WHERE WHAT IT READS IS OF BULK AT MOST 1048576: true; the input reads as it did. -/
def fnExactWatSeeUptoRow : OpenClaim := { program := "ytimaidcjccakeaa", sum := "d4a858c537afafd850216c2039f29866d6a334da7ca57e357a1938d0df3afe8d", func := "loop.example/stileway/laws.FnExactWatSee", spec := "fnExactWatSee", unfollowed := true, recurses := true, plainKeys := false, apart := false, narrowed := true }
def FnExactWatSeeUptoSaid : Prop := fnExactWatSeeUptoRow.holds Try.pinned (OpenSpec.upto fnExactWatSeeSpec)

/-- 'laws.FnExactWatMeet', WHERE WHAT IT READS IS OF BULK AT MOST 1048576: true; the input reads as it did. -/
def fnExactWatMeetUptoRow : OpenClaim := { program := "ytimaidcjccakeaa", sum := "d4a858c537afafd850216c2039f29866d6a334da7ca57e357a1938d0df3afe8d", func := "loop.example/stileway/laws.FnExactWatMeet", spec := "fnExactWatMeet", plainKeys := false, apart := false, narrowed := true }
def FnExactWatMeetUptoSaid : Prop := fnExactWatMeetUptoRow.holds Try.pinned (OpenSpec.upto fnExactWatMeetSpec)

/-- 'laws.FnExactWatAll', WHERE WHAT IT READS IS OF BULK AT MOST 1048576: true; the input reads as it did. -/
def fnExactWatAllUptoRow : OpenClaim := { program := "ytimaidcjccakeaa", sum := "d4a858c537afafd850216c2039f29866d6a334da7ca57e357a1938d0df3afe8d", func := "loop.example/stileway/laws.FnExactWatAll", spec := "fnExactWatAll", unfollowed := true, recurses := true, plainKeys := false, apart := false, narrowed := true }
def FnExactWatAllUptoSaid : Prop := fnExactWatAllUptoRow.holds Try.pinned (OpenSpec.upto fnExactWatAllSpec)

/-- 'laws.FnExactHedOk', WHERE WHAT IT READS IS OF BULK AT MOST 1048576: true; the input reads as it did. -/
def fnExactHedOkUptoRow : OpenClaim := { program := "ytimaidcjccakeaa", sum := "d4a858c537afafd850216c2039f29866d6a334da7ca57e357a1938d0df3afe8d", func := "loop.example/stileway/laws.FnExactHedOk", spec := "fnExactHedOk", plainKeys := false, apart := false, narrowed := true }
def FnExactHedOkUptoSaid : Prop := fnExactHedOkUptoRow.holds Try.pinned (OpenSpec.upto fnExactHedOkSpec)

/-- 'laws.FnExactHedOf', WHERE WHAT IT READS IS OF BULK AT MOST 1048576: true; the input reads as it did. -/
def fnExactHedOfUptoRow : OpenClaim := { program := "ytimaidcjccakeaa", sum := "d4a858c537afafd850216c2039f29866d6a334da7ca57e357a1938d0df3afe8d", func := "loop.example/stileway/laws.FnExactHedOf", spec := "fnExactHedOf", unfollowed := true, recurses := true, plainKeys := false, apart := false, narrowed := true }
def FnExactHedOfUptoSaid : Prop := fnExactHedOfUptoRow.holds Try.pinned (OpenSpec.upto fnExactHedOfSpec)

/-- 'laws.FnExactHedFork', WHERE WHAT IT READS IS OF BULK AT MOST 1048576: true; the input reads as it did. -/
def fnExactHedForkUptoRow : OpenClaim := { program := "ytimaidcjccakeaa", sum := "d4a858c537afafd850216c2039f29866d6a334da7ca57e357a1938d0df3afe8d", func := "loop.example/stileway/laws.FnExactHedFork", spec := "fnExactHedFork", plainKeys := false, apart := false, narrowed := true }
def FnExactHedForkUptoSaid : Prop := fnExactHedForkUptoRow.holds Try.pinned (OpenSpec.upto fnExactHedForkSpec)

/-- 'laws.FnExactHedFollows', WHERE WHAT IT READS IS OF BULK AT MOST 1048576: true; the input reads as it did. -/
def fnExactHedFollowsUptoRow : OpenClaim := { program := "ytimaidcjccakeaa", sum := "d4a858c537afafd850216c2039f29866d6a334da7ca57e357a1938d0df3afe8d", func := "loop.example/stileway/laws.FnExactHedFollows", spec := "fnExactHedFollows", recurses := true, plainKeys := false, apart := false, narrowed := true }
def FnExactHedFollowsUptoSaid : Prop := fnExactHedFollowsUptoRow.holds Try.pinned (OpenSpec.upto fnExactHedFollowsSpec)

/-- 'laws.FnExactHedProof', WHERE WHAT IT READS IS OF BULK AT MOST 1048576: true; the input reads as it did. -/
def fnExactHedProofUptoRow : OpenClaim := { program := "ytimaidcjccakeaa", sum := "d4a858c537afafd850216c2039f29866d6a334da7ca57e357a1938d0df3afe8d", func := "loop.example/stileway/laws.FnExactHedProof", spec := "fnExactHedProof", recurses := true, plainKeys := false, apart := false, narrowed := true }
def FnExactHedProofUptoSaid : Prop := fnExactHedProofUptoRow.holds Try.pinned (OpenSpec.upto fnExactHedProofSpec)

/-- 'laws.FnExactHedAt', WHERE WHAT IT READS IS OF BULK AT MOST 1048576: true; the input reads as it did. -/
def fnExactHedAtUptoRow : OpenClaim := { program := "ytimaidcjccakeaa", sum := "d4a858c537afafd850216c2039f29866d6a334da7ca57e357a1938d0df3afe8d", func := "loop.example/stileway/laws.FnExactHedAt", spec := "fnExactHedAt", unfollowed := true, recurses := true, plainKeys := false, apart := false, narrowed := true }
def FnExactHedAtUptoSaid : Prop := fnExactHedAtUptoRow.holds Try.pinned (OpenSpec.upto fnExactHedAtSpec)

/-- 'laws.FnExactGatNew', WHERE WHAT IT READS IS OF BULK AT MOST 1048576: true; the input reads as it did. -/
def fnExactGatNewUptoRow : OpenClaim := { program := "ytimaidcjccakeaa", sum := "d4a858c537afafd850216c2039f29866d6a334da7ca57e357a1938d0df3afe8d", func := "loop.example/stileway/laws.FnExactGatNew", spec := "fnExactGatNew", unfollowed := true, recurses := true, plainKeys := false, apart := false, narrowed := true }
def FnExactGatNewUptoSaid : Prop := fnExactGatNewUptoRow.holds Try.pinned (OpenSpec.upto fnExactGatNewSpec)

/-- 'laws.FnExactGatOk', WHERE WHAT IT READS IS OF BULK AT MOST 1048576: true; the input reads as it did. -/
def fnExactGatOkUptoRow : OpenClaim := { program := "ytimaidcjccakeaa", sum := "d4a858c537afafd850216c2039f29866d6a334da7ca57e357a1938d0df3afe8d", func := "loop.example/stileway/laws.FnExactGatOk", spec := "fnExactGatOk", plainKeys := false, apart := false, narrowed := true }
def FnExactGatOkUptoSaid : Prop := fnExactGatOkUptoRow.holds Try.pinned (OpenSpec.upto fnExactGatOkSpec)

/-- 'laws.FnExactGatThrough', WHERE WHAT IT READS IS OF BULK AT MOST 1048576: true; the input reads as it did. -/
def fnExactGatThroughUptoRow : OpenClaim := { program := "ytimaidcjccakeaa", sum := "d4a858c537afafd850216c2039f29866d6a334da7ca57e357a1938d0df3afe8d", func := "loop.example/stileway/laws.FnExactGatThrough", spec := "fnExactGatThrough", unfollowed := true, recurses := true, plainKeys := false, apart := false, narrowed := true }
def FnExactGatThroughUptoSaid : Prop := fnExactGatThroughUptoRow.holds Try.pinned (OpenSpec.upto fnExactGatThroughSpec)

/-- 'laws.FnExactGatTimes', WHERE WHAT IT READS IS OF BULK AT MOST 1048576: true; the input reads as it did. -/
def fnExactGatTimesUptoRow : OpenClaim := { program := "ytimaidcjccakeaa", sum := "d4a858c537afafd850216c2039f29866d6a334da7ca57e357a1938d0df3afe8d", func := "loop.example/stileway/laws.FnExactGatTimes", spec := "fnExactGatTimes", plainKeys := false, apart := false, narrowed := true }
def FnExactGatTimesUptoSaid : Prop := fnExactGatTimesUptoRow.holds Try.pinned (OpenSpec.upto fnExactGatTimesSpec)

end Rows
end Go.Proofs.Ytimaidcjccakeaa
