/-
  No cell of these rows narrows 'for every input' (looked for: loops, veiled, ifaces, maps, wideKeys, modest, calm, conditions, laid).
  DERIVED. THE GIVEN ROWS OF THIS SEAT. 17 by the template 'for every input the law returns true; each argument reads behind the call as it read before'; 0 by the template 'total and deterministic' (their statements: YtmlbphmbffkdnaaTotals.lean).
  GIVEN WITH THE SEED: the statements are not yours to turn. If you find one false, say at which input.
  Laid BY PROGRAM, IN A SANDBOX (cutbox-rows.mjs): the forced cells as the released guide's own fill.sh prints them over the translation 5fd4ce05e4d8fa21… (all of the seat's roots in one cut). By AI agents, Wed Nov 11 2026. No macro, syntax, notation, axiom, sorry.
-/
import Derived.Test.YtmlbphmbffkdnaaChecked
import GoSem.Claim
import GoSem.ClaimJoined
import GoSem.ClaimMapViews
import Derived.JoinedTies
import Derived.KernelRfl
namespace Go.Proofs.Ytmlbphmbffkdnaa
/- THE CELL 'sum', in the pinned program and in every row, IS THE sha256 OF THE DUMP (.gsa) THAT YtmlbphmbffkdnaaProg.lean LOADS. Nothing in Lean hashes anything: it is a label: what it is worth is what the hold of that sum in a sandbox is worth. -/
noncomputable def Try.pinned : Pinned := { name := "ytmlbphmbffkdnaa", sum := "5fd4ce05e4d8fa2135fef00a936889c5a8d3f44766f6d7c3f23efca1af54e0db", checked := Try.checked }
namespace Rows
def none {H : Type} : Left H := { results := [], args := [] }

/-- 'laws.FnMktNew': WHATEVER THE INPUT: true; the input reads as it did. -/
def fnMktNewSpec : ChangeSpec := { name := "fnMktNew", fn := fun _ => fun
  | [d] => { results := [.lit (.bool true)], args := [d] }
  | _ => none }
def fnMktNewRow : OpenClaim := { program := "ytmlbphmbffkdnaa", sum := "5fd4ce05e4d8fa2135fef00a936889c5a8d3f44766f6d7c3f23efca1af54e0db", func := "loop.example/stileway/laws.FnMktNew", spec := "fnMktNew", unfollowed := true, recurses := true, plainKeys := false, apart := false }
def FnMktNewSaid : Prop := fnMktNewRow.holds Try.pinned (OpenSpec.ofChange fnMktNewSpec)

/-- ITS FALSE NEIGHBOUR: 'it returns false'. Refute it at one input. -/
def fnMktNewWrong : ChangeSpec := { name := "fnMktNew", fn := fun _ => fun
  | [d] => { results := [.lit (.bool false)], args := [d] }
  | _ => none }
def FnMktNewWrongFalsely : Prop := fnMktNewRow.holds Try.pinned (OpenSpec.ofChange fnMktNewWrong)

/-- 'laws.FnMktTick': WHATEVER THE INPUT: true; the input reads as it did. -/
def fnMktTickSpec : ChangeSpec := { name := "fnMktTick", fn := fun _ => fun
  | [d] => { results := [.lit (.bool true)], args := [d] }
  | _ => none }
def fnMktTickRow : OpenClaim := { program := "ytmlbphmbffkdnaa", sum := "5fd4ce05e4d8fa2135fef00a936889c5a8d3f44766f6d7c3f23efca1af54e0db", func := "loop.example/stileway/laws.FnMktTick", spec := "fnMktTick", unfollowed := true, recurses := true, plainKeys := false, apart := false }
def FnMktTickSaid : Prop := fnMktTickRow.holds Try.pinned (OpenSpec.ofChange fnMktTickSpec)

/-- ITS FALSE NEIGHBOUR: 'it returns false'. Refute it at one input. -/
def fnMktTickWrong : ChangeSpec := { name := "fnMktTick", fn := fun _ => fun
  | [d] => { results := [.lit (.bool false)], args := [d] }
  | _ => none }
def FnMktTickWrongFalsely : Prop := fnMktTickRow.holds Try.pinned (OpenSpec.ofChange fnMktTickWrong)

/-- 'laws.FnMktEnds': WHATEVER THE INPUT: true; the input reads as it did. -/
def fnMktEndsSpec : ChangeSpec := { name := "fnMktEnds", fn := fun _ => fun
  | [d] => { results := [.lit (.bool true)], args := [d] }
  | _ => none }
def fnMktEndsRow : OpenClaim := { program := "ytmlbphmbffkdnaa", sum := "5fd4ce05e4d8fa2135fef00a936889c5a8d3f44766f6d7c3f23efca1af54e0db", func := "loop.example/stileway/laws.FnMktEnds", spec := "fnMktEnds", unfollowed := true, recurses := true, plainKeys := false, apart := false }
def FnMktEndsSaid : Prop := fnMktEndsRow.holds Try.pinned (OpenSpec.ofChange fnMktEndsSpec)

/-- ITS FALSE NEIGHBOUR: 'it returns false'. Refute it at one input. -/
def fnMktEndsWrong : ChangeSpec := { name := "fnMktEnds", fn := fun _ => fun
  | [d] => { results := [.lit (.bool false)], args := [d] }
  | _ => none }
def FnMktEndsWrongFalsely : Prop := fnMktEndsRow.holds Try.pinned (OpenSpec.ofChange fnMktEndsWrong)

/-- 'laws.FnMktOffers': WHATEVER THE INPUT: true; the input reads as it did. -/
def fnMktOffersSpec : ChangeSpec := { name := "fnMktOffers", fn := fun _ => fun
  | [d1, d2] => { results := [.lit (.bool true)], args := [d1, d2] }
  | _ => none }
def fnMktOffersRow : OpenClaim := { program := "ytmlbphmbffkdnaa", sum := "5fd4ce05e4d8fa2135fef00a936889c5a8d3f44766f6d7c3f23efca1af54e0db", func := "loop.example/stileway/laws.FnMktOffers", spec := "fnMktOffers", unfollowed := true, recurses := true, plainKeys := false, apart := false }
def FnMktOffersSaid : Prop := fnMktOffersRow.holds Try.pinned (OpenSpec.ofChange fnMktOffersSpec)

/-- ITS FALSE NEIGHBOUR: 'it returns false'. Refute it at one input. -/
def fnMktOffersWrong : ChangeSpec := { name := "fnMktOffers", fn := fun _ => fun
  | [d1, d2] => { results := [.lit (.bool false)], args := [d1, d2] }
  | _ => none }
def FnMktOffersWrongFalsely : Prop := fnMktOffersRow.holds Try.pinned (OpenSpec.ofChange fnMktOffersWrong)

/-- 'laws.FnMktDealOf': WHATEVER THE INPUT: true; the input reads as it did. -/
def fnMktDealOfSpec : ChangeSpec := { name := "fnMktDealOf", fn := fun _ => fun
  | [d] => { results := [.lit (.bool true)], args := [d] }
  | _ => none }
def fnMktDealOfRow : OpenClaim := { program := "ytmlbphmbffkdnaa", sum := "5fd4ce05e4d8fa2135fef00a936889c5a8d3f44766f6d7c3f23efca1af54e0db", func := "loop.example/stileway/laws.FnMktDealOf", spec := "fnMktDealOf", unfollowed := true, recurses := true, plainKeys := false, apart := false }
def FnMktDealOfSaid : Prop := fnMktDealOfRow.holds Try.pinned (OpenSpec.ofChange fnMktDealOfSpec)

/-- ITS FALSE NEIGHBOUR: 'it returns false'. Refute it at one input. -/
def fnMktDealOfWrong : ChangeSpec := { name := "fnMktDealOf", fn := fun _ => fun
  | [d] => { results := [.lit (.bool false)], args := [d] }
  | _ => none }
def FnMktDealOfWrongFalsely : Prop := fnMktDealOfRow.holds Try.pinned (OpenSpec.ofChange fnMktDealOfWrong)

/-- 'laws.FnMktRows': WHATEVER THE INPUT: true; the input reads as it did. -/
def fnMktRowsSpec : ChangeSpec := { name := "fnMktRows", fn := fun _ => fun
  | [d1, d2] => { results := [.lit (.bool true)], args := [d1, d2] }
  | _ => none }
def fnMktRowsRow : OpenClaim := { program := "ytmlbphmbffkdnaa", sum := "5fd4ce05e4d8fa2135fef00a936889c5a8d3f44766f6d7c3f23efca1af54e0db", func := "loop.example/stileway/laws.FnMktRows", spec := "fnMktRows", unfollowed := true, recurses := true, plainKeys := false, apart := false }
def FnMktRowsSaid : Prop := fnMktRowsRow.holds Try.pinned (OpenSpec.ofChange fnMktRowsSpec)

/-- ITS FALSE NEIGHBOUR: 'it returns false'. Refute it at one input. -/
def fnMktRowsWrong : ChangeSpec := { name := "fnMktRows", fn := fun _ => fun
  | [d1, d2] => { results := [.lit (.bool false)], args := [d1, d2] }
  | _ => none }
def FnMktRowsWrongFalsely : Prop := fnMktRowsRow.holds Try.pinned (OpenSpec.ofChange fnMktRowsWrong)

/-- 'laws.FnReqOk': WHATEVER THE INPUT: true; the input reads as it did. -/
def fnReqOkSpec : ChangeSpec := { name := "fnReqOk", fn := fun _ => fun
  | [d] => { results := [.lit (.bool true)], args := [d] }
  | _ => none }
def fnReqOkRow : OpenClaim := { program := "ytmlbphmbffkdnaa", sum := "5fd4ce05e4d8fa2135fef00a936889c5a8d3f44766f6d7c3f23efca1af54e0db", func := "loop.example/stileway/laws.FnReqOk", spec := "fnReqOk", plainKeys := false, apart := false }
def FnReqOkSaid : Prop := fnReqOkRow.holds Try.pinned (OpenSpec.ofChange fnReqOkSpec)

/-- ITS FALSE NEIGHBOUR: 'it returns false'. Refute it at one input. -/
def fnReqOkWrong : ChangeSpec := { name := "fnReqOk", fn := fun _ => fun
  | [d] => { results := [.lit (.bool false)], args := [d] }
  | _ => none }
def FnReqOkWrongFalsely : Prop := fnReqOkRow.holds Try.pinned (OpenSpec.ofChange fnReqOkWrong)

/-- 'laws.FnGatSync': WHATEVER THE INPUT: true; the input reads as it did. -/
def fnGatSyncSpec : ChangeSpec := { name := "fnGatSync", fn := fun _ => fun
  | [d] => { results := [.lit (.bool true)], args := [d] }
  | _ => none }
def fnGatSyncRow : OpenClaim := { program := "ytmlbphmbffkdnaa", sum := "5fd4ce05e4d8fa2135fef00a936889c5a8d3f44766f6d7c3f23efca1af54e0db", func := "loop.example/stileway/laws.FnGatSync", spec := "fnGatSync", recurses := true, plainKeys := false, apart := false }
def FnGatSyncSaid : Prop := fnGatSyncRow.holds Try.pinned (OpenSpec.ofChange fnGatSyncSpec)

/-- ITS FALSE NEIGHBOUR: 'it returns false'. Refute it at one input. -/
def fnGatSyncWrong : ChangeSpec := { name := "fnGatSync", fn := fun _ => fun
  | [d] => { results := [.lit (.bool false)], args := [d] }
  | _ => none }
def FnGatSyncWrongFalsely : Prop := fnGatSyncRow.holds Try.pinned (OpenSpec.ofChange fnGatSyncWrong)

/-- 'laws.FnGatThrough': WHATEVER THE INPUT: true; the input reads as it did. -/
def fnGatThroughSpec : ChangeSpec := { name := "fnGatThrough", fn := fun _ => fun
  | [d] => { results := [.lit (.bool true)], args := [d] }
  | _ => none }
def fnGatThroughRow : OpenClaim := { program := "ytmlbphmbffkdnaa", sum := "5fd4ce05e4d8fa2135fef00a936889c5a8d3f44766f6d7c3f23efca1af54e0db", func := "loop.example/stileway/laws.FnGatThrough", spec := "fnGatThrough", unfollowed := true, recurses := true, plainKeys := false, apart := false }
def FnGatThroughSaid : Prop := fnGatThroughRow.holds Try.pinned (OpenSpec.ofChange fnGatThroughSpec)

/-- ITS FALSE NEIGHBOUR: 'it returns false'. Refute it at one input. -/
def fnGatThroughWrong : ChangeSpec := { name := "fnGatThrough", fn := fun _ => fun
  | [d] => { results := [.lit (.bool false)], args := [d] }
  | _ => none }
def FnGatThroughWrongFalsely : Prop := fnGatThroughRow.holds Try.pinned (OpenSpec.ofChange fnGatThroughWrong)

/-- 'laws.FnWatSee': WHATEVER THE INPUT: true; the input reads as it did. -/
def fnWatSeeSpec : ChangeSpec := { name := "fnWatSee", fn := fun _ => fun
  | [d] => { results := [.lit (.bool true)], args := [d] }
  | _ => none }
def fnWatSeeRow : OpenClaim := { program := "ytmlbphmbffkdnaa", sum := "5fd4ce05e4d8fa2135fef00a936889c5a8d3f44766f6d7c3f23efca1af54e0db", func := "loop.example/stileway/laws.FnWatSee", spec := "fnWatSee", unfollowed := true, recurses := true, plainKeys := false, apart := false }
def FnWatSeeSaid : Prop := fnWatSeeRow.holds Try.pinned (OpenSpec.ofChange fnWatSeeSpec)

/-- ITS FALSE NEIGHBOUR: 'it returns false'. Refute it at one input. -/
def fnWatSeeWrong : ChangeSpec := { name := "fnWatSee", fn := fun _ => fun
  | [d] => { results := [.lit (.bool false)], args := [d] }
  | _ => none }
def FnWatSeeWrongFalsely : Prop := fnWatSeeRow.holds Try.pinned (OpenSpec.ofChange fnWatSeeWrong)

/-- 'laws.FnExactWatSee': WHATEVER THE INPUT: true; the input reads as it did. -/
def fnExactWatSeeSpec : ChangeSpec := { name := "fnExactWatSee", fn := fun _ => fun
  | [d1, d2] => { results := [.lit (.bool true)], args := [d1, d2] }
  | _ => none }
def fnExactWatSeeRow : OpenClaim := { program := "ytmlbphmbffkdnaa", sum := "5fd4ce05e4d8fa2135fef00a936889c5a8d3f44766f6d7c3f23efca1af54e0db", func := "loop.example/stileway/laws.FnExactWatSee", spec := "fnExactWatSee", unfollowed := true, recurses := true, plainKeys := false, apart := false }
def FnExactWatSeeSaid : Prop := fnExactWatSeeRow.holds Try.pinned (OpenSpec.ofChange fnExactWatSeeSpec)

/-- ITS FALSE NEIGHBOUR: 'it returns false'. Refute it at one input. -/
def fnExactWatSeeWrong : ChangeSpec := { name := "fnExactWatSee", fn := fun _ => fun
  | [d1, d2] => { results := [.lit (.bool false)], args := [d1, d2] }
  | _ => none }
def FnExactWatSeeWrongFalsely : Prop := fnExactWatSeeRow.holds Try.pinned (OpenSpec.ofChange fnExactWatSeeWrong)

/-- 'laws.FnExactMktOk': WHATEVER THE INPUT: true; the input reads as it did. -/
def fnExactMktOkSpec : ChangeSpec := { name := "fnExactMktOk", fn := fun _ => fun
  | [d] => { results := [.lit (.bool true)], args := [d] }
  | _ => none }
def fnExactMktOkRow : OpenClaim := { program := "ytmlbphmbffkdnaa", sum := "5fd4ce05e4d8fa2135fef00a936889c5a8d3f44766f6d7c3f23efca1af54e0db", func := "loop.example/stileway/laws.FnExactMktOk", spec := "fnExactMktOk", unfollowed := true, recurses := true, plainKeys := false, apart := false }
def FnExactMktOkSaid : Prop := fnExactMktOkRow.holds Try.pinned (OpenSpec.ofChange fnExactMktOkSpec)

/-- ITS FALSE NEIGHBOUR: 'it returns false'. Refute it at one input. -/
def fnExactMktOkWrong : ChangeSpec := { name := "fnExactMktOk", fn := fun _ => fun
  | [d] => { results := [.lit (.bool false)], args := [d] }
  | _ => none }
def FnExactMktOkWrongFalsely : Prop := fnExactMktOkRow.holds Try.pinned (OpenSpec.ofChange fnExactMktOkWrong)

/-- 'laws.FnExactMktTick': WHATEVER THE INPUT: true; the input reads as it did. -/
def fnExactMktTickSpec : ChangeSpec := { name := "fnExactMktTick", fn := fun _ => fun
  | [d] => { results := [.lit (.bool true)], args := [d] }
  | _ => none }
def fnExactMktTickRow : OpenClaim := { program := "ytmlbphmbffkdnaa", sum := "5fd4ce05e4d8fa2135fef00a936889c5a8d3f44766f6d7c3f23efca1af54e0db", func := "loop.example/stileway/laws.FnExactMktTick", spec := "fnExactMktTick", unfollowed := true, recurses := true, plainKeys := false, apart := false }
def FnExactMktTickSaid : Prop := fnExactMktTickRow.holds Try.pinned (OpenSpec.ofChange fnExactMktTickSpec)

/-- ITS FALSE NEIGHBOUR: 'it returns false'. Refute it at one input. -/
def fnExactMktTickWrong : ChangeSpec := { name := "fnExactMktTick", fn := fun _ => fun
  | [d] => { results := [.lit (.bool false)], args := [d] }
  | _ => none }
def FnExactMktTickWrongFalsely : Prop := fnExactMktTickRow.holds Try.pinned (OpenSpec.ofChange fnExactMktTickWrong)

/-- 'laws.FnExactGatSync': WHATEVER THE INPUT: true; the input reads as it did. -/
def fnExactGatSyncSpec : ChangeSpec := { name := "fnExactGatSync", fn := fun _ => fun
  | [d1, d2, d3] => { results := [.lit (.bool true)], args := [d1, d2, d3] }
  | _ => none }
def fnExactGatSyncRow : OpenClaim := { program := "ytmlbphmbffkdnaa", sum := "5fd4ce05e4d8fa2135fef00a936889c5a8d3f44766f6d7c3f23efca1af54e0db", func := "loop.example/stileway/laws.FnExactGatSync", spec := "fnExactGatSync", recurses := true, plainKeys := false, apart := false }
def FnExactGatSyncSaid : Prop := fnExactGatSyncRow.holds Try.pinned (OpenSpec.ofChange fnExactGatSyncSpec)

/-- ITS FALSE NEIGHBOUR: 'it returns false'. Refute it at one input. -/
def fnExactGatSyncWrong : ChangeSpec := { name := "fnExactGatSync", fn := fun _ => fun
  | [d1, d2, d3] => { results := [.lit (.bool false)], args := [d1, d2, d3] }
  | _ => none }
def FnExactGatSyncWrongFalsely : Prop := fnExactGatSyncRow.holds Try.pinned (OpenSpec.ofChange fnExactGatSyncWrong)

/-- 'laws.FnExactGatShow': WHATEVER THE INPUT: true; the input reads as it did. -/
def fnExactGatShowSpec : ChangeSpec := { name := "fnExactGatShow", fn := fun _ => fun
  | [d1, d2, d3, d4, d5] => { results := [.lit (.bool true)], args := [d1, d2, d3, d4, d5] }
  | _ => none }
def fnExactGatShowRow : OpenClaim := { program := "ytmlbphmbffkdnaa", sum := "5fd4ce05e4d8fa2135fef00a936889c5a8d3f44766f6d7c3f23efca1af54e0db", func := "loop.example/stileway/laws.FnExactGatShow", spec := "fnExactGatShow", unfollowed := true, recurses := true, plainKeys := false, apart := false }
def FnExactGatShowSaid : Prop := fnExactGatShowRow.holds Try.pinned (OpenSpec.ofChange fnExactGatShowSpec)

/-- ITS FALSE NEIGHBOUR: 'it returns false'. Refute it at one input. -/
def fnExactGatShowWrong : ChangeSpec := { name := "fnExactGatShow", fn := fun _ => fun
  | [d1, d2, d3, d4, d5] => { results := [.lit (.bool false)], args := [d1, d2, d3, d4, d5] }
  | _ => none }
def FnExactGatShowWrongFalsely : Prop := fnExactGatShowRow.holds Try.pinned (OpenSpec.ofChange fnExactGatShowWrong)

/-- 'laws.FnExactGatThrough': WHATEVER THE INPUT: true; the input reads as it did. -/
def fnExactGatThroughSpec : ChangeSpec := { name := "fnExactGatThrough", fn := fun _ => fun
  | [d] => { results := [.lit (.bool true)], args := [d] }
  | _ => none }
def fnExactGatThroughRow : OpenClaim := { program := "ytmlbphmbffkdnaa", sum := "5fd4ce05e4d8fa2135fef00a936889c5a8d3f44766f6d7c3f23efca1af54e0db", func := "loop.example/stileway/laws.FnExactGatThrough", spec := "fnExactGatThrough", unfollowed := true, recurses := true, plainKeys := false, apart := false }
def FnExactGatThroughSaid : Prop := fnExactGatThroughRow.holds Try.pinned (OpenSpec.ofChange fnExactGatThroughSpec)

/-- ITS FALSE NEIGHBOUR: 'it returns false'. Refute it at one input. -/
def fnExactGatThroughWrong : ChangeSpec := { name := "fnExactGatThrough", fn := fun _ => fun
  | [d] => { results := [.lit (.bool false)], args := [d] }
  | _ => none }
def FnExactGatThroughWrongFalsely : Prop := fnExactGatThroughRow.holds Try.pinned (OpenSpec.ofChange fnExactGatThroughWrong)

/-- 'laws.FnExactGatTimes': WHATEVER THE INPUT: true; the input reads as it did. -/
def fnExactGatTimesSpec : ChangeSpec := { name := "fnExactGatTimes", fn := fun _ => fun
  | [d1, d2] => { results := [.lit (.bool true)], args := [d1, d2] }
  | _ => none }
def fnExactGatTimesRow : OpenClaim := { program := "ytmlbphmbffkdnaa", sum := "5fd4ce05e4d8fa2135fef00a936889c5a8d3f44766f6d7c3f23efca1af54e0db", func := "loop.example/stileway/laws.FnExactGatTimes", spec := "fnExactGatTimes", plainKeys := false, apart := false }
def FnExactGatTimesSaid : Prop := fnExactGatTimesRow.holds Try.pinned (OpenSpec.ofChange fnExactGatTimesSpec)

/-- ITS FALSE NEIGHBOUR: 'it returns false'. Refute it at one input. -/
def fnExactGatTimesWrong : ChangeSpec := { name := "fnExactGatTimes", fn := fun _ => fun
  | [d1, d2] => { results := [.lit (.bool false)], args := [d1, d2] }
  | _ => none }
def FnExactGatTimesWrongFalsely : Prop := fnExactGatTimesRow.holds Try.pinned (OpenSpec.ofChange fnExactGatTimesWrong)

/- THE SECOND FORM. 'bulk': how many values and letters a reading holds, each counted each time it is reached (what is shared counts as often as it is met; a slice's spare places count too). A statement '..UptoSaid' is the law's where the arguments, and the package variables that the reading takes, are together of bulk at most 1048576: NARROWER than '..Said'. Prove '..Said' where nothing that the law and all that it calls make is longer than what came in: it says more and counts as full. Else prove '..UptoSaid'. A law counts once. -/
mutual
def uptoBulk {H : Type} : DataW H → Nat
  | .lit (.string bytes) => bytes.length + 1
  | .lit _ => 1
  | .nil => 1
  | .ptr d => uptoBulk d + 1
  | .slice elems spare => uptoBulkAll elems + uptoBulkAll spare + 1
  | .agg parts => uptoBulkAll parts + 1
  | .iface _ d => uptoBulk d + 1
  | .map entries => uptoBulkEntries entries + 1
  | .held _ => 1
def uptoBulkAll {H : Type} : List (DataW H) → Nat
  | [] => 0
  | d :: r => uptoBulk d + uptoBulkAll r
def uptoBulkEntries {H : Type} : List (Lit × DataW H) → Nat
  | [] => 0
  | x :: r => uptoBulkEntry x + uptoBulkEntries r
def uptoBulkEntry {H : Type} : Lit × DataW H → Nat
  | (.string bytes, d) => bytes.length + uptoBulk d + 1
  | (_, d) => uptoBulk d + 1
 end
def uptoSmall : (H : Type) → List (DataW H) → Bool := fun _ ds => decide (uptoBulkAll ds ≤ 1048576)
def OpenSpec.upto (s : _root_.Go.ChangeSpec) : _root_.Go.OpenSpec := { _root_.Go.OpenSpec.ofChange s with cond := some uptoSmall }

/-- 'laws.FnMktNew', WHERE WHAT IT READS IS OF BULK AT MOST 1048576: true; the input reads as it did. -/
def fnMktNewUptoRow : OpenClaim := { program := "ytmlbphmbffkdnaa", sum := "5fd4ce05e4d8fa2135fef00a936889c5a8d3f44766f6d7c3f23efca1af54e0db", func := "loop.example/stileway/laws.FnMktNew", spec := "fnMktNew", unfollowed := true, recurses := true, plainKeys := false, apart := false, narrowed := true }
def FnMktNewUptoSaid : Prop := fnMktNewUptoRow.holds Try.pinned (OpenSpec.upto fnMktNewSpec)

/-- 'laws.FnMktTick', WHERE WHAT IT READS IS OF BULK AT MOST 1048576: true; the input reads as it did. -/
def fnMktTickUptoRow : OpenClaim := { program := "ytmlbphmbffkdnaa", sum := "5fd4ce05e4d8fa2135fef00a936889c5a8d3f44766f6d7c3f23efca1af54e0db", func := "loop.example/stileway/laws.FnMktTick", spec := "fnMktTick", unfollowed := true, recurses := true, plainKeys := false, apart := false, narrowed := true }
def FnMktTickUptoSaid : Prop := fnMktTickUptoRow.holds Try.pinned (OpenSpec.upto fnMktTickSpec)

/-- 'laws.FnMktEnds', WHERE WHAT IT READS IS OF BULK AT MOST 1048576: true; the input reads as it did. -/
def fnMktEndsUptoRow : OpenClaim := { program := "ytmlbphmbffkdnaa", sum := "5fd4ce05e4d8fa2135fef00a936889c5a8d3f44766f6d7c3f23efca1af54e0db", func := "loop.example/stileway/laws.FnMktEnds", spec := "fnMktEnds", unfollowed := true, recurses := true, plainKeys := false, apart := false, narrowed := true }
def FnMktEndsUptoSaid : Prop := fnMktEndsUptoRow.holds Try.pinned (OpenSpec.upto fnMktEndsSpec)

/-- 'laws.FnMktOffers', WHERE WHAT IT READS IS OF BULK AT MOST 1048576: true; the input reads as it did. -/
def fnMktOffersUptoRow : OpenClaim := { program := "ytmlbphmbffkdnaa", sum := "5fd4ce05e4d8fa2135fef00a936889c5a8d3f44766f6d7c3f23efca1af54e0db", func := "loop.example/stileway/laws.FnMktOffers", spec := "fnMktOffers", unfollowed := true, recurses := true, plainKeys := false, apart := false, narrowed := true }
def FnMktOffersUptoSaid : Prop := fnMktOffersUptoRow.holds Try.pinned (OpenSpec.upto fnMktOffersSpec)

/-- 'laws.FnMktDealOf', WHERE WHAT IT READS IS OF BULK AT MOST 1048576: true; the input reads as it did. -/
def fnMktDealOfUptoRow : OpenClaim := { program := "ytmlbphmbffkdnaa", sum := "5fd4ce05e4d8fa2135fef00a936889c5a8d3f44766f6d7c3f23efca1af54e0db", func := "loop.example/stileway/laws.FnMktDealOf", spec := "fnMktDealOf", unfollowed := true, recurses := true, plainKeys := false, apart := false, narrowed := true }
def FnMktDealOfUptoSaid : Prop := fnMktDealOfUptoRow.holds Try.pinned (OpenSpec.upto fnMktDealOfSpec)

/-- 'laws.FnMktRows', WHERE WHAT IT READS IS OF BULK AT MOST 1048576: true; the input reads as it did. -/
def fnMktRowsUptoRow : OpenClaim := { program := "ytmlbphmbffkdnaa", sum := "5fd4ce05e4d8fa2135fef00a936889c5a8d3f44766f6d7c3f23efca1af54e0db", func := "loop.example/stileway/laws.FnMktRows", spec := "fnMktRows", unfollowed := true, recurses := true, plainKeys := false, apart := false, narrowed := true }
def FnMktRowsUptoSaid : Prop := fnMktRowsUptoRow.holds Try.pinned (OpenSpec.upto fnMktRowsSpec)

/-- 'laws.FnReqOk', WHERE WHAT IT READS IS OF BULK AT MOST 1048576: true; the input reads as it did. -/
def fnReqOkUptoRow : OpenClaim := { program := "ytmlbphmbffkdnaa", sum := "5fd4ce05e4d8fa2135fef00a936889c5a8d3f44766f6d7c3f23efca1af54e0db", func := "loop.example/stileway/laws.FnReqOk", spec := "fnReqOk", plainKeys := false, apart := false, narrowed := true }
def FnReqOkUptoSaid : Prop := fnReqOkUptoRow.holds Try.pinned (OpenSpec.upto fnReqOkSpec)

/-- 'laws.FnGatSync', WHERE WHAT IT READS IS OF BULK AT MOST 1048576: true; the input reads as it did. -/
def fnGatSyncUptoRow : OpenClaim := { program := "ytmlbphmbffkdnaa", sum := "5fd4ce05e4d8fa2135fef00a936889c5a8d3f44766f6d7c3f23efca1af54e0db", func := "loop.example/stileway/laws.FnGatSync", spec := "fnGatSync", recurses := true, plainKeys := false, apart := false, narrowed := true }
def FnGatSyncUptoSaid : Prop := fnGatSyncUptoRow.holds Try.pinned (OpenSpec.upto fnGatSyncSpec)

/-- 'laws.FnGatThrough', WHERE WHAT IT READS IS OF BULK AT MOST 1048576: true; the input reads as it did. -/
def fnGatThroughUptoRow : OpenClaim := { program := "ytmlbphmbffkdnaa", sum := "5fd4ce05e4d8fa2135fef00a936889c5a8d3f44766f6d7c3f23efca1af54e0db", func := "loop.example/stileway/laws.FnGatThrough", spec := "fnGatThrough", unfollowed := true, recurses := true, plainKeys := false, apart := false, narrowed := true }
def FnGatThroughUptoSaid : Prop := fnGatThroughUptoRow.holds Try.pinned (OpenSpec.upto fnGatThroughSpec)

/-- 'laws.FnWatSee', WHERE WHAT IT READS IS OF BULK AT MOST 1048576: true; the input reads as it did. -/
def fnWatSeeUptoRow : OpenClaim := { program := "ytmlbphmbffkdnaa", sum := "5fd4ce05e4d8fa2135fef00a936889c5a8d3f44766f6d7c3f23efca1af54e0db", func := "loop.example/stileway/laws.FnWatSee", spec := "fnWatSee", unfollowed := true, recurses := true, plainKeys := false, apart := false, narrowed := true }
def FnWatSeeUptoSaid : Prop := fnWatSeeUptoRow.holds Try.pinned (OpenSpec.upto fnWatSeeSpec)

/-- 'laws.FnExactWatSee', WHERE WHAT IT READS IS OF BULK AT MOST 1048576: true; the input reads as it did. -/
def fnExactWatSeeUptoRow : OpenClaim := { program := "ytmlbphmbffkdnaa", sum := "5fd4ce05e4d8fa2135fef00a936889c5a8d3f44766f6d7c3f23efca1af54e0db", func := "loop.example/stileway/laws.FnExactWatSee", spec := "fnExactWatSee", unfollowed := true, recurses := true, plainKeys := false, apart := false, narrowed := true }
def FnExactWatSeeUptoSaid : Prop := fnExactWatSeeUptoRow.holds Try.pinned (OpenSpec.upto fnExactWatSeeSpec)

/-- 'laws.FnExactMktOk', WHERE WHAT IT READS IS OF BULK AT MOST 1048576: true; the input reads as it did. -/
def fnExactMktOkUptoRow : OpenClaim := { program := "ytmlbphmbffkdnaa", sum := "5fd4ce05e4d8fa2135fef00a936889c5a8d3f44766f6d7c3f23efca1af54e0db", func := "loop.example/stileway/laws.FnExactMktOk", spec := "fnExactMktOk", unfollowed := true, recurses := true, plainKeys := false, apart := false, narrowed := true }
def FnExactMktOkUptoSaid : Prop := fnExactMktOkUptoRow.holds Try.pinned (OpenSpec.upto fnExactMktOkSpec)

/-- 'laws.FnExactMktTick', WHERE WHAT IT READS IS OF BULK AT MOST 1048576: true; the input reads as it did. -/
def fnExactMktTickUptoRow : OpenClaim := { program := "ytmlbphmbffkdnaa", sum := "5fd4ce05e4d8fa2135fef00a936889c5a8d3f44766f6d7c3f23efca1af54e0db", func := "loop.example/stileway/laws.FnExactMktTick", spec := "fnExactMktTick", unfollowed := true, recurses := true, plainKeys := false, apart := false, narrowed := true }
def FnExactMktTickUptoSaid : Prop := fnExactMktTickUptoRow.holds Try.pinned (OpenSpec.upto fnExactMktTickSpec)

/-- 'laws.FnExactGatSync', WHERE WHAT IT READS IS OF BULK AT MOST 1048576: true; the input reads as it did. -/
def fnExactGatSyncUptoRow : OpenClaim := { program := "ytmlbphmbffkdnaa", sum := "5fd4ce05e4d8fa2135fef00a936889c5a8d3f44766f6d7c3f23efca1af54e0db", func := "loop.example/stileway/laws.FnExactGatSync", spec := "fnExactGatSync", recurses := true, plainKeys := false, apart := false, narrowed := true }
def FnExactGatSyncUptoSaid : Prop := fnExactGatSyncUptoRow.holds Try.pinned (OpenSpec.upto fnExactGatSyncSpec)

/-- 'laws.FnExactGatShow', WHERE WHAT IT READS IS OF BULK AT MOST 1048576: true; the input reads as it did. -/
def fnExactGatShowUptoRow : OpenClaim := { program := "ytmlbphmbffkdnaa", sum := "5fd4ce05e4d8fa2135fef00a936889c5a8d3f44766f6d7c3f23efca1af54e0db", func := "loop.example/stileway/laws.FnExactGatShow", spec := "fnExactGatShow", unfollowed := true, recurses := true, plainKeys := false, apart := false, narrowed := true }
def FnExactGatShowUptoSaid : Prop := fnExactGatShowUptoRow.holds Try.pinned (OpenSpec.upto fnExactGatShowSpec)

/-- 'laws.FnExactGatThrough', WHERE WHAT IT READS IS OF BULK AT MOST 1048576: true; the input reads as it did. -/
def fnExactGatThroughUptoRow : OpenClaim := { program := "ytmlbphmbffkdnaa", sum := "5fd4ce05e4d8fa2135fef00a936889c5a8d3f44766f6d7c3f23efca1af54e0db", func := "loop.example/stileway/laws.FnExactGatThrough", spec := "fnExactGatThrough", unfollowed := true, recurses := true, plainKeys := false, apart := false, narrowed := true }
def FnExactGatThroughUptoSaid : Prop := fnExactGatThroughUptoRow.holds Try.pinned (OpenSpec.upto fnExactGatThroughSpec)

/-- 'laws.FnExactGatTimes', WHERE WHAT IT READS IS OF BULK AT MOST 1048576: true; the input reads as it did. -/
def fnExactGatTimesUptoRow : OpenClaim := { program := "ytmlbphmbffkdnaa", sum := "5fd4ce05e4d8fa2135fef00a936889c5a8d3f44766f6d7c3f23efca1af54e0db", func := "loop.example/stileway/laws.FnExactGatTimes", spec := "fnExactGatTimes", plainKeys := false, apart := false, narrowed := true }
def FnExactGatTimesUptoSaid : Prop := fnExactGatTimesUptoRow.holds Try.pinned (OpenSpec.upto fnExactGatTimesSpec)

end Rows
end Go.Proofs.Ytmlbphmbffkdnaa
