/-
  No cell of these rows narrows 'for every input' (looked for: loops, veiled, ifaces, maps, wideKeys, modest, calm, conditions, laid).
  DERIVED. THE GIVEN ROWS OF THIS SEAT. 22 by the template 'for every input the law returns true; each argument reads behind the call as it read before'; 0 by the template 'total and deterministic' (their statements: YtdpkdcdieajkbaaTotals.lean).
  GIVEN WITH THE SEED: the statements are not yours to turn. If you find one false, say at which input.
  Laid BY PROGRAM, IN A SANDBOX (cutbox-rows.mjs): the forced cells as the released guide's own fill.sh prints them over the translation 306541323797038d… (all of the seat's roots in one cut). By AI agents, Wed Nov 11 2026. No macro, syntax, notation, axiom, sorry.
-/
import Derived.Test.YtdpkdcdieajkbaaChecked
import GoSem.Claim
import GoSem.ClaimJoined
import GoSem.ClaimMapViews
import Derived.JoinedTies
import Derived.KernelRfl
namespace Go.Proofs.Ytdpkdcdieajkbaa
/- THE CELL 'sum', in the pinned program and in every row, IS THE sha256 OF THE DUMP (.gsa) THAT YtdpkdcdieajkbaaProg.lean LOADS. Nothing in Lean hashes anything: it is a label: what it is worth is what the hold of that sum in a sandbox is worth. -/
noncomputable def Try.pinned : Pinned := { name := "ytdpkdcdieajkbaa", sum := "306541323797038daed4457e72f73d3559459d1d8915686f5cafdc1077b52b7b", checked := Try.checked }
namespace Rows
def none {H : Type} : Left H := { results := [], args := [] }

/-- 'laws.FnOwnPut': WHATEVER THE INPUT: true; the input reads as it did. -/
def fnOwnPutSpec : ChangeSpec := { name := "fnOwnPut", fn := fun _ => fun
  | [d] => { results := [.lit (.bool true)], args := [d] }
  | _ => none }
def fnOwnPutRow : OpenClaim := { program := "ytdpkdcdieajkbaa", sum := "306541323797038daed4457e72f73d3559459d1d8915686f5cafdc1077b52b7b", func := "loop.example/stileway/laws.FnOwnPut", spec := "fnOwnPut", unfollowed := true, recurses := true, plainKeys := false, apart := false }
def FnOwnPutSaid : Prop := fnOwnPutRow.holds Try.pinned (OpenSpec.ofChange fnOwnPutSpec)

/-- ITS FALSE NEIGHBOUR: 'it returns false'. Refute it at one input. -/
def fnOwnPutWrong : ChangeSpec := { name := "fnOwnPut", fn := fun _ => fun
  | [d] => { results := [.lit (.bool false)], args := [d] }
  | _ => none }
def FnOwnPutWrongFalsely : Prop := fnOwnPutRow.holds Try.pinned (OpenSpec.ofChange fnOwnPutWrong)

/-- 'laws.FnGatSync': WHATEVER THE INPUT: true; the input reads as it did. -/
def fnGatSyncSpec : ChangeSpec := { name := "fnGatSync", fn := fun _ => fun
  | [d] => { results := [.lit (.bool true)], args := [d] }
  | _ => none }
def fnGatSyncRow : OpenClaim := { program := "ytdpkdcdieajkbaa", sum := "306541323797038daed4457e72f73d3559459d1d8915686f5cafdc1077b52b7b", func := "loop.example/stileway/laws.FnGatSync", spec := "fnGatSync", recurses := true, plainKeys := false, apart := false }
def FnGatSyncSaid : Prop := fnGatSyncRow.holds Try.pinned (OpenSpec.ofChange fnGatSyncSpec)

/-- ITS FALSE NEIGHBOUR: 'it returns false'. Refute it at one input. -/
def fnGatSyncWrong : ChangeSpec := { name := "fnGatSync", fn := fun _ => fun
  | [d] => { results := [.lit (.bool false)], args := [d] }
  | _ => none }
def FnGatSyncWrongFalsely : Prop := fnGatSyncRow.holds Try.pinned (OpenSpec.ofChange fnGatSyncWrong)

/-- 'laws.FnGatThrough': WHATEVER THE INPUT: true; the input reads as it did. -/
def fnGatThroughSpec : ChangeSpec := { name := "fnGatThrough", fn := fun _ => fun
  | [d] => { results := [.lit (.bool true)], args := [d] }
  | _ => none }
def fnGatThroughRow : OpenClaim := { program := "ytdpkdcdieajkbaa", sum := "306541323797038daed4457e72f73d3559459d1d8915686f5cafdc1077b52b7b", func := "loop.example/stileway/laws.FnGatThrough", spec := "fnGatThrough", unfollowed := true, recurses := true, plainKeys := false, apart := false }
def FnGatThroughSaid : Prop := fnGatThroughRow.holds Try.pinned (OpenSpec.ofChange fnGatThroughSpec)

/-- ITS FALSE NEIGHBOUR: 'it returns false'. Refute it at one input. -/
def fnGatThroughWrong : ChangeSpec := { name := "fnGatThrough", fn := fun _ => fun
  | [d] => { results := [.lit (.bool false)], args := [d] }
  | _ => none }
def FnGatThroughWrongFalsely : Prop := fnGatThroughRow.holds Try.pinned (OpenSpec.ofChange fnGatThroughWrong)

/-- 'laws.FnWatSee': WHATEVER THE INPUT: true; the input reads as it did. -/
def fnWatSeeSpec : ChangeSpec := { name := "fnWatSee", fn := fun _ => fun
  | [d] => { results := [.lit (.bool true)], args := [d] }
  | _ => none }
def fnWatSeeRow : OpenClaim := { program := "ytdpkdcdieajkbaa", sum := "306541323797038daed4457e72f73d3559459d1d8915686f5cafdc1077b52b7b", func := "loop.example/stileway/laws.FnWatSee", spec := "fnWatSee", unfollowed := true, recurses := true, plainKeys := false, apart := false }
def FnWatSeeSaid : Prop := fnWatSeeRow.holds Try.pinned (OpenSpec.ofChange fnWatSeeSpec)

/-- ITS FALSE NEIGHBOUR: 'it returns false'. Refute it at one input. -/
def fnWatSeeWrong : ChangeSpec := { name := "fnWatSee", fn := fun _ => fun
  | [d] => { results := [.lit (.bool false)], args := [d] }
  | _ => none }
def FnWatSeeWrongFalsely : Prop := fnWatSeeRow.holds Try.pinned (OpenSpec.ofChange fnWatSeeWrong)

/-- 'laws.FnWatMeet': WHATEVER THE INPUT: true; the input reads as it did. -/
def fnWatMeetSpec : ChangeSpec := { name := "fnWatMeet", fn := fun _ => fun
  | [d1, d2] => { results := [.lit (.bool true)], args := [d1, d2] }
  | _ => none }
def fnWatMeetRow : OpenClaim := { program := "ytdpkdcdieajkbaa", sum := "306541323797038daed4457e72f73d3559459d1d8915686f5cafdc1077b52b7b", func := "loop.example/stileway/laws.FnWatMeet", spec := "fnWatMeet", unfollowed := true, recurses := true, plainKeys := false, apart := false }
def FnWatMeetSaid : Prop := fnWatMeetRow.holds Try.pinned (OpenSpec.ofChange fnWatMeetSpec)

/-- ITS FALSE NEIGHBOUR: 'it returns false'. Refute it at one input. -/
def fnWatMeetWrong : ChangeSpec := { name := "fnWatMeet", fn := fun _ => fun
  | [d1, d2] => { results := [.lit (.bool false)], args := [d1, d2] }
  | _ => none }
def FnWatMeetWrongFalsely : Prop := fnWatMeetRow.holds Try.pinned (OpenSpec.ofChange fnWatMeetWrong)

/-- 'laws.FnWatAll': WHATEVER THE INPUT: true; the input reads as it did. -/
def fnWatAllSpec : ChangeSpec := { name := "fnWatAll", fn := fun _ => fun
  | [d] => { results := [.lit (.bool true)], args := [d] }
  | _ => none }
def fnWatAllRow : OpenClaim := { program := "ytdpkdcdieajkbaa", sum := "306541323797038daed4457e72f73d3559459d1d8915686f5cafdc1077b52b7b", func := "loop.example/stileway/laws.FnWatAll", spec := "fnWatAll", unfollowed := true, recurses := true, plainKeys := false, apart := false }
def FnWatAllSaid : Prop := fnWatAllRow.holds Try.pinned (OpenSpec.ofChange fnWatAllSpec)

/-- ITS FALSE NEIGHBOUR: 'it returns false'. Refute it at one input. -/
def fnWatAllWrong : ChangeSpec := { name := "fnWatAll", fn := fun _ => fun
  | [d] => { results := [.lit (.bool false)], args := [d] }
  | _ => none }
def FnWatAllWrongFalsely : Prop := fnWatAllRow.holds Try.pinned (OpenSpec.ofChange fnWatAllWrong)

/-- 'laws.FnExactWatOk': WHATEVER THE INPUT: true; the input reads as it did. -/
def fnExactWatOkSpec : ChangeSpec := { name := "fnExactWatOk", fn := fun _ => fun
  | [d] => { results := [.lit (.bool true)], args := [d] }
  | _ => none }
def fnExactWatOkRow : OpenClaim := { program := "ytdpkdcdieajkbaa", sum := "306541323797038daed4457e72f73d3559459d1d8915686f5cafdc1077b52b7b", func := "loop.example/stileway/laws.FnExactWatOk", spec := "fnExactWatOk", plainKeys := false, apart := false }
def FnExactWatOkSaid : Prop := fnExactWatOkRow.holds Try.pinned (OpenSpec.ofChange fnExactWatOkSpec)

/-- ITS FALSE NEIGHBOUR: 'it returns false'. Refute it at one input. -/
def fnExactWatOkWrong : ChangeSpec := { name := "fnExactWatOk", fn := fun _ => fun
  | [d] => { results := [.lit (.bool false)], args := [d] }
  | _ => none }
def FnExactWatOkWrongFalsely : Prop := fnExactWatOkRow.holds Try.pinned (OpenSpec.ofChange fnExactWatOkWrong)

/-- 'laws.FnExactWatSee': WHATEVER THE INPUT: true; the input reads as it did. -/
def fnExactWatSeeSpec : ChangeSpec := { name := "fnExactWatSee", fn := fun _ => fun
  | [d1, d2] => { results := [.lit (.bool true)], args := [d1, d2] }
  | _ => none }
def fnExactWatSeeRow : OpenClaim := { program := "ytdpkdcdieajkbaa", sum := "306541323797038daed4457e72f73d3559459d1d8915686f5cafdc1077b52b7b", func := "loop.example/stileway/laws.FnExactWatSee", spec := "fnExactWatSee", unfollowed := true, recurses := true, plainKeys := false, apart := false }
def FnExactWatSeeSaid : Prop := fnExactWatSeeRow.holds Try.pinned (OpenSpec.ofChange fnExactWatSeeSpec)

/-- ITS FALSE NEIGHBOUR: 'it returns false'. Refute it at one input. -/
def fnExactWatSeeWrong : ChangeSpec := { name := "fnExactWatSee", fn := fun _ => fun
  | [d1, d2] => { results := [.lit (.bool false)], args := [d1, d2] }
  | _ => none }
def FnExactWatSeeWrongFalsely : Prop := fnExactWatSeeRow.holds Try.pinned (OpenSpec.ofChange fnExactWatSeeWrong)

/-- 'laws.FnExactWatMeet': WHATEVER THE INPUT: true; the input reads as it did. -/
def fnExactWatMeetSpec : ChangeSpec := { name := "fnExactWatMeet", fn := fun _ => fun
  | [d1, d2] => { results := [.lit (.bool true)], args := [d1, d2] }
  | _ => none }
def fnExactWatMeetRow : OpenClaim := { program := "ytdpkdcdieajkbaa", sum := "306541323797038daed4457e72f73d3559459d1d8915686f5cafdc1077b52b7b", func := "loop.example/stileway/laws.FnExactWatMeet", spec := "fnExactWatMeet", plainKeys := false, apart := false }
def FnExactWatMeetSaid : Prop := fnExactWatMeetRow.holds Try.pinned (OpenSpec.ofChange fnExactWatMeetSpec)

/-- ITS FALSE NEIGHBOUR: 'it returns false'. Refute it at one input. -/
def fnExactWatMeetWrong : ChangeSpec := { name := "fnExactWatMeet", fn := fun _ => fun
  | [d1, d2] => { results := [.lit (.bool false)], args := [d1, d2] }
  | _ => none }
def FnExactWatMeetWrongFalsely : Prop := fnExactWatMeetRow.holds Try.pinned (OpenSpec.ofChange fnExactWatMeetWrong)

/-- 'laws.FnExactWatAll': WHATEVER THE INPUT: true; the input reads as it did. -/
def fnExactWatAllSpec : ChangeSpec := { name := "fnExactWatAll", fn := fun _ => fun
  | [d1, d2] => { results := [.lit (.bool true)], args := [d1, d2] }
  | _ => none }
def fnExactWatAllRow : OpenClaim := { program := "ytdpkdcdieajkbaa", sum := "306541323797038daed4457e72f73d3559459d1d8915686f5cafdc1077b52b7b", func := "loop.example/stileway/laws.FnExactWatAll", spec := "fnExactWatAll", unfollowed := true, recurses := true, plainKeys := false, apart := false }
def FnExactWatAllSaid : Prop := fnExactWatAllRow.holds Try.pinned (OpenSpec.ofChange fnExactWatAllSpec)

/-- ITS FALSE NEIGHBOUR: 'it returns false'. Refute it at one input. -/
def fnExactWatAllWrong : ChangeSpec := { name := "fnExactWatAll", fn := fun _ => fun
  | [d1, d2] => { results := [.lit (.bool false)], args := [d1, d2] }
  | _ => none }
def FnExactWatAllWrongFalsely : Prop := fnExactWatAllRow.holds Try.pinned (OpenSpec.ofChange fnExactWatAllWrong)

/-- 'laws.FnExactMktOk': WHATEVER THE INPUT: true; the input reads as it did. -/
def fnExactMktOkSpec : ChangeSpec := { name := "fnExactMktOk", fn := fun _ => fun
  | [d] => { results := [.lit (.bool true)], args := [d] }
  | _ => none }
def fnExactMktOkRow : OpenClaim := { program := "ytdpkdcdieajkbaa", sum := "306541323797038daed4457e72f73d3559459d1d8915686f5cafdc1077b52b7b", func := "loop.example/stileway/laws.FnExactMktOk", spec := "fnExactMktOk", unfollowed := true, recurses := true, plainKeys := false, apart := false }
def FnExactMktOkSaid : Prop := fnExactMktOkRow.holds Try.pinned (OpenSpec.ofChange fnExactMktOkSpec)

/-- ITS FALSE NEIGHBOUR: 'it returns false'. Refute it at one input. -/
def fnExactMktOkWrong : ChangeSpec := { name := "fnExactMktOk", fn := fun _ => fun
  | [d] => { results := [.lit (.bool false)], args := [d] }
  | _ => none }
def FnExactMktOkWrongFalsely : Prop := fnExactMktOkRow.holds Try.pinned (OpenSpec.ofChange fnExactMktOkWrong)

/-- 'laws.FnExactMktRows': WHATEVER THE INPUT: true; the input reads as it did. -/
def fnExactMktRowsSpec : ChangeSpec := { name := "fnExactMktRows", fn := fun _ => fun
  | [d] => { results := [.lit (.bool true)], args := [d] }
  | _ => none }
def fnExactMktRowsRow : OpenClaim := { program := "ytdpkdcdieajkbaa", sum := "306541323797038daed4457e72f73d3559459d1d8915686f5cafdc1077b52b7b", func := "loop.example/stileway/laws.FnExactMktRows", spec := "fnExactMktRows", unfollowed := true, recurses := true, plainKeys := false, apart := false }
def FnExactMktRowsSaid : Prop := fnExactMktRowsRow.holds Try.pinned (OpenSpec.ofChange fnExactMktRowsSpec)

/-- ITS FALSE NEIGHBOUR: 'it returns false'. Refute it at one input. -/
def fnExactMktRowsWrong : ChangeSpec := { name := "fnExactMktRows", fn := fun _ => fun
  | [d] => { results := [.lit (.bool false)], args := [d] }
  | _ => none }
def FnExactMktRowsWrongFalsely : Prop := fnExactMktRowsRow.holds Try.pinned (OpenSpec.ofChange fnExactMktRowsWrong)

/-- 'laws.FnExactMktDealOf': WHATEVER THE INPUT: true; the input reads as it did. -/
def fnExactMktDealOfSpec : ChangeSpec := { name := "fnExactMktDealOf", fn := fun _ => fun
  | [d1, d2] => { results := [.lit (.bool true)], args := [d1, d2] }
  | _ => none }
def fnExactMktDealOfRow : OpenClaim := { program := "ytdpkdcdieajkbaa", sum := "306541323797038daed4457e72f73d3559459d1d8915686f5cafdc1077b52b7b", func := "loop.example/stileway/laws.FnExactMktDealOf", spec := "fnExactMktDealOf", unfollowed := true, recurses := true, plainKeys := false, apart := false }
def FnExactMktDealOfSaid : Prop := fnExactMktDealOfRow.holds Try.pinned (OpenSpec.ofChange fnExactMktDealOfSpec)

/-- ITS FALSE NEIGHBOUR: 'it returns false'. Refute it at one input. -/
def fnExactMktDealOfWrong : ChangeSpec := { name := "fnExactMktDealOf", fn := fun _ => fun
  | [d1, d2] => { results := [.lit (.bool false)], args := [d1, d2] }
  | _ => none }
def FnExactMktDealOfWrongFalsely : Prop := fnExactMktDealOfRow.holds Try.pinned (OpenSpec.ofChange fnExactMktDealOfWrong)

/-- 'laws.FnExactMktTick': WHATEVER THE INPUT: true; the input reads as it did. -/
def fnExactMktTickSpec : ChangeSpec := { name := "fnExactMktTick", fn := fun _ => fun
  | [d] => { results := [.lit (.bool true)], args := [d] }
  | _ => none }
def fnExactMktTickRow : OpenClaim := { program := "ytdpkdcdieajkbaa", sum := "306541323797038daed4457e72f73d3559459d1d8915686f5cafdc1077b52b7b", func := "loop.example/stileway/laws.FnExactMktTick", spec := "fnExactMktTick", unfollowed := true, recurses := true, plainKeys := false, apart := false }
def FnExactMktTickSaid : Prop := fnExactMktTickRow.holds Try.pinned (OpenSpec.ofChange fnExactMktTickSpec)

/-- ITS FALSE NEIGHBOUR: 'it returns false'. Refute it at one input. -/
def fnExactMktTickWrong : ChangeSpec := { name := "fnExactMktTick", fn := fun _ => fun
  | [d] => { results := [.lit (.bool false)], args := [d] }
  | _ => none }
def FnExactMktTickWrongFalsely : Prop := fnExactMktTickRow.holds Try.pinned (OpenSpec.ofChange fnExactMktTickWrong)

/-- 'laws.FnExactMktOffers': WHATEVER THE INPUT: true; the input reads as it did. -/
def fnExactMktOffersSpec : ChangeSpec := { name := "fnExactMktOffers", fn := fun _ => fun
  | [d] => { results := [.lit (.bool true)], args := [d] }
  | _ => none }
def fnExactMktOffersRow : OpenClaim := { program := "ytdpkdcdieajkbaa", sum := "306541323797038daed4457e72f73d3559459d1d8915686f5cafdc1077b52b7b", func := "loop.example/stileway/laws.FnExactMktOffers", spec := "fnExactMktOffers", plainKeys := false, apart := false }
def FnExactMktOffersSaid : Prop := fnExactMktOffersRow.holds Try.pinned (OpenSpec.ofChange fnExactMktOffersSpec)

/-- ITS FALSE NEIGHBOUR: 'it returns false'. Refute it at one input. -/
def fnExactMktOffersWrong : ChangeSpec := { name := "fnExactMktOffers", fn := fun _ => fun
  | [d] => { results := [.lit (.bool false)], args := [d] }
  | _ => none }
def FnExactMktOffersWrongFalsely : Prop := fnExactMktOffersRow.holds Try.pinned (OpenSpec.ofChange fnExactMktOffersWrong)

/-- 'laws.FnExactMktFor': WHATEVER THE INPUT: true; the input reads as it did. -/
def fnExactMktForSpec : ChangeSpec := { name := "fnExactMktFor", fn := fun _ => fun
  | [d1, d2] => { results := [.lit (.bool true)], args := [d1, d2] }
  | _ => none }
def fnExactMktForRow : OpenClaim := { program := "ytdpkdcdieajkbaa", sum := "306541323797038daed4457e72f73d3559459d1d8915686f5cafdc1077b52b7b", func := "loop.example/stileway/laws.FnExactMktFor", spec := "fnExactMktFor", plainKeys := false, apart := false }
def FnExactMktForSaid : Prop := fnExactMktForRow.holds Try.pinned (OpenSpec.ofChange fnExactMktForSpec)

/-- ITS FALSE NEIGHBOUR: 'it returns false'. Refute it at one input. -/
def fnExactMktForWrong : ChangeSpec := { name := "fnExactMktFor", fn := fun _ => fun
  | [d1, d2] => { results := [.lit (.bool false)], args := [d1, d2] }
  | _ => none }
def FnExactMktForWrongFalsely : Prop := fnExactMktForRow.holds Try.pinned (OpenSpec.ofChange fnExactMktForWrong)

/-- 'laws.FnExactGatNew': WHATEVER THE INPUT: true; the input reads as it did. -/
def fnExactGatNewSpec : ChangeSpec := { name := "fnExactGatNew", fn := fun _ => fun
  | [] => { results := [.lit (.bool true)], args := [] }
  | _ => none }
def fnExactGatNewRow : OpenClaim := { program := "ytdpkdcdieajkbaa", sum := "306541323797038daed4457e72f73d3559459d1d8915686f5cafdc1077b52b7b", func := "loop.example/stileway/laws.FnExactGatNew", spec := "fnExactGatNew", unfollowed := true, recurses := true, plainKeys := false, apart := false }
def FnExactGatNewSaid : Prop := fnExactGatNewRow.holds Try.pinned (OpenSpec.ofChange fnExactGatNewSpec)

/-- ITS FALSE NEIGHBOUR: 'it returns false'. Refute it at one input. -/
def fnExactGatNewWrong : ChangeSpec := { name := "fnExactGatNew", fn := fun _ => fun
  | [] => { results := [.lit (.bool false)], args := [] }
  | _ => none }
def FnExactGatNewWrongFalsely : Prop := fnExactGatNewRow.holds Try.pinned (OpenSpec.ofChange fnExactGatNewWrong)

/-- 'laws.FnExactGatOk': WHATEVER THE INPUT: true; the input reads as it did. -/
def fnExactGatOkSpec : ChangeSpec := { name := "fnExactGatOk", fn := fun _ => fun
  | [d] => { results := [.lit (.bool true)], args := [d] }
  | _ => none }
def fnExactGatOkRow : OpenClaim := { program := "ytdpkdcdieajkbaa", sum := "306541323797038daed4457e72f73d3559459d1d8915686f5cafdc1077b52b7b", func := "loop.example/stileway/laws.FnExactGatOk", spec := "fnExactGatOk", plainKeys := false, apart := false }
def FnExactGatOkSaid : Prop := fnExactGatOkRow.holds Try.pinned (OpenSpec.ofChange fnExactGatOkSpec)

/-- ITS FALSE NEIGHBOUR: 'it returns false'. Refute it at one input. -/
def fnExactGatOkWrong : ChangeSpec := { name := "fnExactGatOk", fn := fun _ => fun
  | [d] => { results := [.lit (.bool false)], args := [d] }
  | _ => none }
def FnExactGatOkWrongFalsely : Prop := fnExactGatOkRow.holds Try.pinned (OpenSpec.ofChange fnExactGatOkWrong)

/-- 'laws.FnExactGatSync': WHATEVER THE INPUT: true; the input reads as it did. -/
def fnExactGatSyncSpec : ChangeSpec := { name := "fnExactGatSync", fn := fun _ => fun
  | [d1, d2, d3] => { results := [.lit (.bool true)], args := [d1, d2, d3] }
  | _ => none }
def fnExactGatSyncRow : OpenClaim := { program := "ytdpkdcdieajkbaa", sum := "306541323797038daed4457e72f73d3559459d1d8915686f5cafdc1077b52b7b", func := "loop.example/stileway/laws.FnExactGatSync", spec := "fnExactGatSync", recurses := true, plainKeys := false, apart := false }
def FnExactGatSyncSaid : Prop := fnExactGatSyncRow.holds Try.pinned (OpenSpec.ofChange fnExactGatSyncSpec)

/-- ITS FALSE NEIGHBOUR: 'it returns false'. Refute it at one input. -/
def fnExactGatSyncWrong : ChangeSpec := { name := "fnExactGatSync", fn := fun _ => fun
  | [d1, d2, d3] => { results := [.lit (.bool false)], args := [d1, d2, d3] }
  | _ => none }
def FnExactGatSyncWrongFalsely : Prop := fnExactGatSyncRow.holds Try.pinned (OpenSpec.ofChange fnExactGatSyncWrong)

/-- 'laws.FnExactGatShow': WHATEVER THE INPUT: true; the input reads as it did. -/
def fnExactGatShowSpec : ChangeSpec := { name := "fnExactGatShow", fn := fun _ => fun
  | [d1, d2, d3, d4, d5] => { results := [.lit (.bool true)], args := [d1, d2, d3, d4, d5] }
  | _ => none }
def fnExactGatShowRow : OpenClaim := { program := "ytdpkdcdieajkbaa", sum := "306541323797038daed4457e72f73d3559459d1d8915686f5cafdc1077b52b7b", func := "loop.example/stileway/laws.FnExactGatShow", spec := "fnExactGatShow", unfollowed := true, recurses := true, plainKeys := false, apart := false }
def FnExactGatShowSaid : Prop := fnExactGatShowRow.holds Try.pinned (OpenSpec.ofChange fnExactGatShowSpec)

/-- ITS FALSE NEIGHBOUR: 'it returns false'. Refute it at one input. -/
def fnExactGatShowWrong : ChangeSpec := { name := "fnExactGatShow", fn := fun _ => fun
  | [d1, d2, d3, d4, d5] => { results := [.lit (.bool false)], args := [d1, d2, d3, d4, d5] }
  | _ => none }
def FnExactGatShowWrongFalsely : Prop := fnExactGatShowRow.holds Try.pinned (OpenSpec.ofChange fnExactGatShowWrong)

/-- 'laws.FnExactGatThrough': WHATEVER THE INPUT: true; the input reads as it did. -/
def fnExactGatThroughSpec : ChangeSpec := { name := "fnExactGatThrough", fn := fun _ => fun
  | [d] => { results := [.lit (.bool true)], args := [d] }
  | _ => none }
def fnExactGatThroughRow : OpenClaim := { program := "ytdpkdcdieajkbaa", sum := "306541323797038daed4457e72f73d3559459d1d8915686f5cafdc1077b52b7b", func := "loop.example/stileway/laws.FnExactGatThrough", spec := "fnExactGatThrough", unfollowed := true, recurses := true, plainKeys := false, apart := false }
def FnExactGatThroughSaid : Prop := fnExactGatThroughRow.holds Try.pinned (OpenSpec.ofChange fnExactGatThroughSpec)

/-- ITS FALSE NEIGHBOUR: 'it returns false'. Refute it at one input. -/
def fnExactGatThroughWrong : ChangeSpec := { name := "fnExactGatThrough", fn := fun _ => fun
  | [d] => { results := [.lit (.bool false)], args := [d] }
  | _ => none }
def FnExactGatThroughWrongFalsely : Prop := fnExactGatThroughRow.holds Try.pinned (OpenSpec.ofChange fnExactGatThroughWrong)

/-- 'laws.FnExactGatTimes': WHATEVER THE INPUT: true; the input reads as it did. -/
def fnExactGatTimesSpec : ChangeSpec := { name := "fnExactGatTimes", fn := fun _ => fun
  | [d1, d2] => { results := [.lit (.bool true)], args := [d1, d2] }
  | _ => none }
def fnExactGatTimesRow : OpenClaim := { program := "ytdpkdcdieajkbaa", sum := "306541323797038daed4457e72f73d3559459d1d8915686f5cafdc1077b52b7b", func := "loop.example/stileway/laws.FnExactGatTimes", spec := "fnExactGatTimes", plainKeys := false, apart := false }
def FnExactGatTimesSaid : Prop := fnExactGatTimesRow.holds Try.pinned (OpenSpec.ofChange fnExactGatTimesSpec)

/-- ITS FALSE NEIGHBOUR: 'it returns false'. Refute it at one input. -/
def fnExactGatTimesWrong : ChangeSpec := { name := "fnExactGatTimes", fn := fun _ => fun
  | [d1, d2] => { results := [.lit (.bool false)], args := [d1, d2] }
  | _ => none }
def FnExactGatTimesWrongFalsely : Prop := fnExactGatTimesRow.holds Try.pinned (OpenSpec.ofChange fnExactGatTimesWrong)

/- THE SECOND FORM. 'bulk': how many values and letters a reading holds, each counted each time it is reached (what is shared counts as often as it is met; a slice's spare places count too). A statement '..UptoSaid' is the law's where the arguments, and the package variables that the reading takes, are together of bulk at most 1048576: NARROWER than '..Said'. Prove '..Said' where nothing that the law and all that it calls make is longer than what came in: it says more and counts as full. Else prove '..UptoSaid'. A law counts once. -/
mutual
def uptoBulk {H : Type} : DataW H → Nat
  | .lit (.string bytes) => bytes.length + 1
  | .lit _ => 1
  | .nil => 1
  | .ptr d => uptoBulk d + 1
  | .slice elems spare => uptoBulkAll elems + uptoBulkAll spare + 1
  | .agg parts => uptoBulkAll parts + 1
  | .iface _ d => uptoBulk d + 1
  | .map entries => uptoBulkEntries entries + 1
  | .held _ => 1
def uptoBulkAll {H : Type} : List (DataW H) → Nat
  | [] => 0
  | d :: r => uptoBulk d + uptoBulkAll r
def uptoBulkEntries {H : Type} : List (Lit × DataW H) → Nat
  | [] => 0
  | x :: r => uptoBulkEntry x + uptoBulkEntries r
def uptoBulkEntry {H : Type} : Lit × DataW H → Nat
  | (.string bytes, d) => bytes.length + uptoBulk d + 1
  | (_, d) => uptoBulk d + 1
 end
def uptoSmall : (H : Type) → List (DataW H) → Bool := fun _ ds => decide (uptoBulkAll ds ≤ 1048576)
def OpenSpec.upto (s : _root_.Go.ChangeSpec) : _root_.Go.OpenSpec := { _root_.Go.OpenSpec.ofChange s with cond := some uptoSmall }

/-- 'laws.FnOwnPut', WHERE WHAT IT READS IS OF BULK AT MOST 1048576: true; the input reads as it did. -/
def fnOwnPutUptoRow : OpenClaim := { program := "ytdpkdcdieajkbaa", sum := "306541323797038daed4457e72f73d3559459d1d8915686f5cafdc1077b52b7b", func := "loop.example/stileway/laws.FnOwnPut", spec := "fnOwnPut", unfollowed := true, recurses := true, plainKeys := false, apart := false, narrowed := true }
def FnOwnPutUptoSaid : Prop := fnOwnPutUptoRow.holds Try.pinned (OpenSpec.upto fnOwnPutSpec)

/-- 'laws.FnGatSync', WHERE WHAT IT READS IS OF BULK AT MOST 1048576: true; the input reads as it did. -/
def fnGatSyncUptoRow : OpenClaim := { program := "ytdpkdcdieajkbaa", sum := "306541323797038daed4457e72f73d3559459d1d8915686f5cafdc1077b52b7b", func := "loop.example/stileway/laws.FnGatSync", spec := "fnGatSync", recurses := true, plainKeys := false, apart := false, narrowed := true }
def FnGatSyncUptoSaid : Prop := fnGatSyncUptoRow.holds Try.pinned (OpenSpec.upto fnGatSyncSpec)

/-- 'laws.FnGatThrough', WHERE WHAT IT READS IS OF BULK AT MOST 1048576: true; the input reads as it did. -/
def fnGatThroughUptoRow : OpenClaim := { program := "ytdpkdcdieajkbaa", sum := "306541323797038daed4457e72f73d3559459d1d8915686f5cafdc1077b52b7b", func := "loop.example/stileway/laws.FnGatThrough", spec := "fnGatThrough", unfollowed := true, recurses := true, plainKeys := false, apart := false, narrowed := true }
def FnGatThroughUptoSaid : Prop := fnGatThroughUptoRow.holds Try.pinned (OpenSpec.upto fnGatThroughSpec)

/-- 'laws.FnWatSee', WHERE WHAT IT READS IS OF BULK AT MOST 1048576: true; the input reads as it did. -/
def fnWatSeeUptoRow : OpenClaim := { program := "ytdpkdcdieajkbaa", sum := "306541323797038daed4457e72f73d3559459d1d8915686f5cafdc1077b52b7b", func := "loop.example/stileway/laws.FnWatSee", spec := "fnWatSee", unfollowed := true, recurses := true, plainKeys := false, apart := false, narrowed := true }
def FnWatSeeUptoSaid : Prop := fnWatSeeUptoRow.holds Try.pinned (OpenSpec.upto fnWatSeeSpec)

/-- 'laws.FnWatMeet', WHERE WHAT IT READS IS OF BULK AT MOST 1048576: true; the input reads as it did. -/
def fnWatMeetUptoRow : OpenClaim := { program := "ytdpkdcdieajkbaa", sum := "306541323797038daed4457e72f73d3559459d1d8915686f5cafdc1077b52b7b", func := "loop.example/stileway/laws.FnWatMeet", spec := "fnWatMeet", unfollowed := true, recurses := true, plainKeys := false, apart := false, narrowed := true }
def FnWatMeetUptoSaid : Prop := fnWatMeetUptoRow.holds Try.pinned (OpenSpec.upto fnWatMeetSpec)

/-- 'laws.FnWatAll', WHERE WHAT IT READS IS OF BULK AT MOST 1048576: true; the input reads as it did. -/
def fnWatAllUptoRow : OpenClaim := { program := "ytdpkdcdieajkbaa", sum := "306541323797038daed4457e72f73d3559459d1d8915686f5cafdc1077b52b7b", func := "loop.example/stileway/laws.FnWatAll", spec := "fnWatAll", unfollowed := true, recurses := true, plainKeys := false, apart := false, narrowed := true }
def FnWatAllUptoSaid : Prop := fnWatAllUptoRow.holds Try.pinned (OpenSpec.upto fnWatAllSpec)

/-- 'laws.FnExactWatOk', WHERE WHAT IT READS IS OF BULK AT MOST 1048576: true; the input reads as it did. -/
def fnExactWatOkUptoRow : OpenClaim := { program := "ytdpkdcdieajkbaa", sum := "306541323797038daed4457e72f73d3559459d1d8915686f5cafdc1077b52b7b", func := "loop.example/stileway/laws.FnExactWatOk", spec := "fnExactWatOk", plainKeys := false, apart := false, narrowed := true }
def FnExactWatOkUptoSaid : Prop := fnExactWatOkUptoRow.holds Try.pinned (OpenSpec.upto fnExactWatOkSpec)

/-- 'laws.FnExactWatSee', WHERE WHAT IT READS IS OF BULK AT MOST 1048576: true; the input reads as it did. -/
def fnExactWatSeeUptoRow : OpenClaim := { program := "ytdpkdcdieajkbaa", sum := "306541323797038daed4457e72f73d3559459d1d8915686f5cafdc1077b52b7b", func := "loop.example/stileway/laws.FnExactWatSee", spec := "fnExactWatSee", unfollowed := true, recurses := true, plainKeys := false, apart := false, narrowed := true }
def FnExactWatSeeUptoSaid : Prop := fnExactWatSeeUptoRow.holds Try.pinned (OpenSpec.upto fnExactWatSeeSpec)

/-- 'laws.FnExactWatMeet', WHERE WHAT IT READS IS OF BULK AT MOST 1048576: true; the input reads as it did. -/
def fnExactWatMeetUptoRow : OpenClaim := { program := "ytdpkdcdieajkbaa", sum := "306541323797038daed4457e72f73d3559459d1d8915686f5cafdc1077b52b7b", func := "loop.example/stileway/laws.FnExactWatMeet", spec := "fnExactWatMeet", plainKeys := false, apart := false, narrowed := true }
def FnExactWatMeetUptoSaid : Prop := fnExactWatMeetUptoRow.holds Try.pinned (OpenSpec.upto fnExactWatMeetSpec)

/-- 'laws.FnExactWatAll', WHERE WHAT IT READS IS OF BULK AT MOST 1048576: true; the input reads as it did. -/
def fnExactWatAllUptoRow : OpenClaim := { program := "ytdpkdcdieajkbaa", sum := "306541323797038daed4457e72f73d3559459d1d8915686f5cafdc1077b52b7b", func := "loop.example/stileway/laws.FnExactWatAll", spec := "fnExactWatAll", unfollowed := true, recurses := true, plainKeys := false, apart := false, narrowed := true }
def FnExactWatAllUptoSaid : Prop := fnExactWatAllUptoRow.holds Try.pinned (OpenSpec.upto fnExactWatAllSpec)

/-- 'laws.FnExactMktOk', WHERE WHAT IT READS IS OF BULK AT MOST 1048576: true; the input reads as it did. -/
def fnExactMktOkUptoRow : OpenClaim := { program := "ytdpkdcdieajkbaa", sum := "306541323797038daed4457e72f73d3559459d1d8915686f5cafdc1077b52b7b", func := "loop.example/stileway/laws.FnExactMktOk", spec := "fnExactMktOk", unfollowed := true, recurses := true, plainKeys := false, apart := false, narrowed := true }
def FnExactMktOkUptoSaid : Prop := fnExactMktOkUptoRow.holds Try.pinned (OpenSpec.upto fnExactMktOkSpec)

/-- 'laws.FnExactMktRows', WHERE WHAT IT READS IS OF BULK AT MOST 1048576: true; the input reads as it did. -/
def fnExactMktRowsUptoRow : OpenClaim := { program := "ytdpkdcdieajkbaa", sum := "306541323797038daed4457e72f73d3559459d1d8915686f5cafdc1077b52b7b", func := "loop.example/stileway/laws.FnExactMktRows", spec := "fnExactMktRows", unfollowed := true, recurses := true, plainKeys := false, apart := false, narrowed := true }
def FnExactMktRowsUptoSaid : Prop := fnExactMktRowsUptoRow.holds Try.pinned (OpenSpec.upto fnExactMktRowsSpec)

/-- 'laws.FnExactMktDealOf', WHERE WHAT IT READS IS OF BULK AT MOST 1048576: true; the input reads as it did. -/
def fnExactMktDealOfUptoRow : OpenClaim := { program := "ytdpkdcdieajkbaa", sum := "306541323797038daed4457e72f73d3559459d1d8915686f5cafdc1077b52b7b", func := "loop.example/stileway/laws.FnExactMktDealOf", spec := "fnExactMktDealOf", unfollowed := true, recurses := true, plainKeys := false, apart := false, narrowed := true }
def FnExactMktDealOfUptoSaid : Prop := fnExactMktDealOfUptoRow.holds Try.pinned (OpenSpec.upto fnExactMktDealOfSpec)

/-- 'laws.FnExactMktTick', WHERE WHAT IT READS IS OF BULK AT MOST 1048576: true; the input reads as it did. -/
def fnExactMktTickUptoRow : OpenClaim := { program := "ytdpkdcdieajkbaa", sum := "306541323797038daed4457e72f73d3559459d1d8915686f5cafdc1077b52b7b", func := "loop.example/stileway/laws.FnExactMktTick", spec := "fnExactMktTick", unfollowed := true, recurses := true, plainKeys := false, apart := false, narrowed := true }
def FnExactMktTickUptoSaid : Prop := fnExactMktTickUptoRow.holds Try.pinned (OpenSpec.upto fnExactMktTickSpec)

/-- 'laws.FnExactMktOffers', WHERE WHAT IT READS IS OF BULK AT MOST 1048576: true; the input reads as it did. -/
def fnExactMktOffersUptoRow : OpenClaim := { program := "ytdpkdcdieajkbaa", sum := "306541323797038daed4457e72f73d3559459d1d8915686f5cafdc1077b52b7b", func := "loop.example/stileway/laws.FnExactMktOffers", spec := "fnExactMktOffers", plainKeys := false, apart := false, narrowed := true }
def FnExactMktOffersUptoSaid : Prop := fnExactMktOffersUptoRow.holds Try.pinned (OpenSpec.upto fnExactMktOffersSpec)

/-- 'laws.FnExactMktFor', WHERE WHAT IT READS IS OF BULK AT MOST 1048576: true; the input reads as it did. -/
def fnExactMktForUptoRow : OpenClaim := { program := "ytdpkdcdieajkbaa", sum := "306541323797038daed4457e72f73d3559459d1d8915686f5cafdc1077b52b7b", func := "loop.example/stileway/laws.FnExactMktFor", spec := "fnExactMktFor", plainKeys := false, apart := false, narrowed := true }
def FnExactMktForUptoSaid : Prop := fnExactMktForUptoRow.holds Try.pinned (OpenSpec.upto fnExactMktForSpec)

/-- 'laws.FnExactGatNew', WHERE WHAT IT READS IS OF BULK AT MOST 1048576: true; the input reads as it did. -/
def fnExactGatNewUptoRow : OpenClaim := { program := "ytdpkdcdieajkbaa", sum := "306541323797038daed4457e72f73d3559459d1d8915686f5cafdc1077b52b7b", func := "loop.example/stileway/laws.FnExactGatNew", spec := "fnExactGatNew", unfollowed := true, recurses := true, plainKeys := false, apart := false, narrowed := true }
def FnExactGatNewUptoSaid : Prop := fnExactGatNewUptoRow.holds Try.pinned (OpenSpec.upto fnExactGatNewSpec)

/-- 'laws.FnExactGatOk', WHERE WHAT IT READS IS OF BULK AT MOST 1048576: true; the input reads as it did. -/
def fnExactGatOkUptoRow : OpenClaim := { program := "ytdpkdcdieajkbaa", sum := "306541323797038daed4457e72f73d3559459d1d8915686f5cafdc1077b52b7b", func := "loop.example/stileway/laws.FnExactGatOk", spec := "fnExactGatOk", plainKeys := false, apart := false, narrowed := true }
def FnExactGatOkUptoSaid : Prop := fnExactGatOkUptoRow.holds Try.pinned (OpenSpec.upto fnExactGatOkSpec)

/-- 'laws.FnExactGatSync', WHERE WHAT IT READS IS OF BULK AT MOST 1048576: true; the input reads as it did. -/
def fnExactGatSyncUptoRow : OpenClaim := { program := "ytdpkdcdieajkbaa", sum := "306541323797038daed4457e72f73d3559459d1d8915686f5cafdc1077b52b7b", func := "loop.example/stileway/laws.FnExactGatSync", spec := "fnExactGatSync", recurses := true, plainKeys := false, apart := false, narrowed := true }
def FnExactGatSyncUptoSaid : Prop := fnExactGatSyncUptoRow.holds Try.pinned (OpenSpec.upto fnExactGatSyncSpec)

/-- 'laws.FnExactGatShow', WHERE WHAT IT READS IS OF BULK AT MOST 1048576: true; the input reads as it did. -/
def fnExactGatShowUptoRow : OpenClaim := { program := "ytdpkdcdieajkbaa", sum := "306541323797038daed4457e72f73d3559459d1d8915686f5cafdc1077b52b7b", func := "loop.example/stileway/laws.FnExactGatShow", spec := "fnExactGatShow", unfollowed := true, recurses := true, plainKeys := false, apart := false, narrowed := true }
def FnExactGatShowUptoSaid : Prop := fnExactGatShowUptoRow.holds Try.pinned (OpenSpec.upto fnExactGatShowSpec)

/-- 'laws.FnExactGatThrough', WHERE WHAT IT READS IS OF BULK AT MOST 1048576: true; the input reads as it did. -/
def fnExactGatThroughUptoRow : OpenClaim := { program := "ytdpkdcdieajkbaa", sum := "306541323797038daed4457e72f73d3559459d1d8915686f5cafdc1077b52b7b", func := "loop.example/stileway/laws.FnExactGatThrough", spec := "fnExactGatThrough", unfollowed := true, recurses := true, plainKeys := false, apart := false, narrowed := true }
def FnExactGatThroughUptoSaid : Prop := fnExactGatThroughUptoRow.holds Try.pinned (OpenSpec.upto fnExactGatThroughSpec)

/-- 'laws.FnExactGatTimes', WHERE WHAT IT READS IS OF BULK AT MOST 1048576: true; the input reads as it did. -/
def fnExactGatTimesUptoRow : OpenClaim := { program := "ytdpkdcdieajkbaa", sum := "306541323797038daed4457e72f73d3559459d1d8915686f5cafdc1077b52b7b", func := "loop.example/stileway/laws.FnExactGatTimes", spec := "fnExactGatTimes", plainKeys := false, apart := false, narrowed := true }
def FnExactGatTimesUptoSaid : Prop := fnExactGatTimesUptoRow.holds Try.pinned (OpenSpec.upto fnExactGatTimesSpec)

end Rows
end Go.Proofs.Ytdpkdcdieajkbaa
