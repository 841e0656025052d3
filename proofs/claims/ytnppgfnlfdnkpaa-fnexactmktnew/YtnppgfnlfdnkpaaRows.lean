/-
  No cell of these rows narrows 'for every input' (looked for: loops, veiled, ifaces, maps, wideKeys, modest, calm, conditions, laid).
  DERIVED. THE GIVEN ROWS OF THIS SEAT. 15 by the template 'for every input the law returns true; each argument reads behind the call as it read before'; 0 by the template 'total and deterministic' (their statements: YtnppgfnlfdnkpaaTotals.lean).
  GIVEN WITH THE SEED: the statements are not yours to turn. If you find one false, say at which input.
  Laid BY PROGRAM, IN A SANDBOX (cutbox-rows.mjs): the forced cells as the released guide's own fill.sh prints them over the translation f09dfb5184ed5429… (all of the seat's roots in one cut). By AI agents, Wed Nov 11 2026. No macro, syntax, notation, axiom, sorry.
-/
import Derived.Test.YtnppgfnlfdnkpaaChecked
import GoSem.Claim
import GoSem.ClaimJoined
import GoSem.ClaimMapViews
import Derived.JoinedTies
import Derived.KernelRfl
namespace Go.Proofs.Ytnppgfnlfdnkpaa
/- THE CELL 'sum', in the pinned program and in every row, IS THE sha256 OF THE DUMP (.gsa) THAT YtnppgfnlfdnkpaaProg.lean LOADS. Nothing in Lean hashes anything: it is a label: what it is worth is what the hold of that sum in a sandbox is worth. -/
noncomputable def Try.pinned : Pinned := { name := "ytnppgfnlfdnkpaa", sum := "f09dfb5184ed5429feb00c5c9db7a2a767e52636584ce8e3a9bfd24f65ebc943", checked := Try.checked }
namespace Rows
def none {H : Type} : Left H := { results := [], args := [] }

/-- 'laws.FnMktNew': WHATEVER THE INPUT: true; the input reads as it did. -/
def fnMktNewSpec : ChangeSpec := { name := "fnMktNew", fn := fun _ => fun
  | [d] => { results := [.lit (.bool true)], args := [d] }
  | _ => none }
def fnMktNewRow : OpenClaim := { program := "ytnppgfnlfdnkpaa", sum := "f09dfb5184ed5429feb00c5c9db7a2a767e52636584ce8e3a9bfd24f65ebc943", func := "loop.example/stileway/laws.FnMktNew", spec := "fnMktNew", unfollowed := true, recurses := true, apart := false }
def FnMktNewSaid : Prop := fnMktNewRow.holds Try.pinned (OpenSpec.ofChange fnMktNewSpec)

/-- ITS FALSE NEIGHBOUR: 'it returns false'. Refute it at one input. -/
def fnMktNewWrong : ChangeSpec := { name := "fnMktNew", fn := fun _ => fun
  | [d] => { results := [.lit (.bool false)], args := [d] }
  | _ => none }
def FnMktNewWrongFalsely : Prop := fnMktNewRow.holds Try.pinned (OpenSpec.ofChange fnMktNewWrong)

/-- 'laws.FnMktTick': WHATEVER THE INPUT: true; the input reads as it did. -/
def fnMktTickSpec : ChangeSpec := { name := "fnMktTick", fn := fun _ => fun
  | [d] => { results := [.lit (.bool true)], args := [d] }
  | _ => none }
def fnMktTickRow : OpenClaim := { program := "ytnppgfnlfdnkpaa", sum := "f09dfb5184ed5429feb00c5c9db7a2a767e52636584ce8e3a9bfd24f65ebc943", func := "loop.example/stileway/laws.FnMktTick", spec := "fnMktTick", unfollowed := true, recurses := true, apart := false }
def FnMktTickSaid : Prop := fnMktTickRow.holds Try.pinned (OpenSpec.ofChange fnMktTickSpec)

/-- ITS FALSE NEIGHBOUR: 'it returns false'. Refute it at one input. -/
def fnMktTickWrong : ChangeSpec := { name := "fnMktTick", fn := fun _ => fun
  | [d] => { results := [.lit (.bool false)], args := [d] }
  | _ => none }
def FnMktTickWrongFalsely : Prop := fnMktTickRow.holds Try.pinned (OpenSpec.ofChange fnMktTickWrong)

/-- 'laws.FnMktEnds': WHATEVER THE INPUT: true; the input reads as it did. -/
def fnMktEndsSpec : ChangeSpec := { name := "fnMktEnds", fn := fun _ => fun
  | [d] => { results := [.lit (.bool true)], args := [d] }
  | _ => none }
def fnMktEndsRow : OpenClaim := { program := "ytnppgfnlfdnkpaa", sum := "f09dfb5184ed5429feb00c5c9db7a2a767e52636584ce8e3a9bfd24f65ebc943", func := "loop.example/stileway/laws.FnMktEnds", spec := "fnMktEnds", unfollowed := true, recurses := true, apart := false }
def FnMktEndsSaid : Prop := fnMktEndsRow.holds Try.pinned (OpenSpec.ofChange fnMktEndsSpec)

/-- ITS FALSE NEIGHBOUR: 'it returns false'. Refute it at one input. -/
def fnMktEndsWrong : ChangeSpec := { name := "fnMktEnds", fn := fun _ => fun
  | [d] => { results := [.lit (.bool false)], args := [d] }
  | _ => none }
def FnMktEndsWrongFalsely : Prop := fnMktEndsRow.holds Try.pinned (OpenSpec.ofChange fnMktEndsWrong)

/-- 'laws.FnMktOffers': WHATEVER THE INPUT: true; the input reads as it did. -/
def fnMktOffersSpec : ChangeSpec := { name := "fnMktOffers", fn := fun _ => fun
  | [d1, d2] => { results := [.lit (.bool true)], args := [d1, d2] }
  | _ => none }
def fnMktOffersRow : OpenClaim := { program := "ytnppgfnlfdnkpaa", sum := "f09dfb5184ed5429feb00c5c9db7a2a767e52636584ce8e3a9bfd24f65ebc943", func := "loop.example/stileway/laws.FnMktOffers", spec := "fnMktOffers", unfollowed := true, recurses := true, apart := false }
def FnMktOffersSaid : Prop := fnMktOffersRow.holds Try.pinned (OpenSpec.ofChange fnMktOffersSpec)

/-- ITS FALSE NEIGHBOUR: 'it returns false'. Refute it at one input. -/
def fnMktOffersWrong : ChangeSpec := { name := "fnMktOffers", fn := fun _ => fun
  | [d1, d2] => { results := [.lit (.bool false)], args := [d1, d2] }
  | _ => none }
def FnMktOffersWrongFalsely : Prop := fnMktOffersRow.holds Try.pinned (OpenSpec.ofChange fnMktOffersWrong)

/-- 'laws.FnMktDealOf': WHATEVER THE INPUT: true; the input reads as it did. -/
def fnMktDealOfSpec : ChangeSpec := { name := "fnMktDealOf", fn := fun _ => fun
  | [d] => { results := [.lit (.bool true)], args := [d] }
  | _ => none }
def fnMktDealOfRow : OpenClaim := { program := "ytnppgfnlfdnkpaa", sum := "f09dfb5184ed5429feb00c5c9db7a2a767e52636584ce8e3a9bfd24f65ebc943", func := "loop.example/stileway/laws.FnMktDealOf", spec := "fnMktDealOf", unfollowed := true, recurses := true, apart := false }
def FnMktDealOfSaid : Prop := fnMktDealOfRow.holds Try.pinned (OpenSpec.ofChange fnMktDealOfSpec)

/-- ITS FALSE NEIGHBOUR: 'it returns false'. Refute it at one input. -/
def fnMktDealOfWrong : ChangeSpec := { name := "fnMktDealOf", fn := fun _ => fun
  | [d] => { results := [.lit (.bool false)], args := [d] }
  | _ => none }
def FnMktDealOfWrongFalsely : Prop := fnMktDealOfRow.holds Try.pinned (OpenSpec.ofChange fnMktDealOfWrong)

/-- 'laws.FnMktRows': WHATEVER THE INPUT: true; the input reads as it did. -/
def fnMktRowsSpec : ChangeSpec := { name := "fnMktRows", fn := fun _ => fun
  | [d1, d2] => { results := [.lit (.bool true)], args := [d1, d2] }
  | _ => none }
def fnMktRowsRow : OpenClaim := { program := "ytnppgfnlfdnkpaa", sum := "f09dfb5184ed5429feb00c5c9db7a2a767e52636584ce8e3a9bfd24f65ebc943", func := "loop.example/stileway/laws.FnMktRows", spec := "fnMktRows", unfollowed := true, recurses := true, apart := false }
def FnMktRowsSaid : Prop := fnMktRowsRow.holds Try.pinned (OpenSpec.ofChange fnMktRowsSpec)

/-- ITS FALSE NEIGHBOUR: 'it returns false'. Refute it at one input. -/
def fnMktRowsWrong : ChangeSpec := { name := "fnMktRows", fn := fun _ => fun
  | [d1, d2] => { results := [.lit (.bool false)], args := [d1, d2] }
  | _ => none }
def FnMktRowsWrongFalsely : Prop := fnMktRowsRow.holds Try.pinned (OpenSpec.ofChange fnMktRowsWrong)

/-- 'laws.FnReqOk': WHATEVER THE INPUT: true; the input reads as it did. -/
def fnReqOkSpec : ChangeSpec := { name := "fnReqOk", fn := fun _ => fun
  | [d] => { results := [.lit (.bool true)], args := [d] }
  | _ => none }
def fnReqOkRow : OpenClaim := { program := "ytnppgfnlfdnkpaa", sum := "f09dfb5184ed5429feb00c5c9db7a2a767e52636584ce8e3a9bfd24f65ebc943", func := "loop.example/stileway/laws.FnReqOk", spec := "fnReqOk", apart := false }
def FnReqOkSaid : Prop := fnReqOkRow.holds Try.pinned (OpenSpec.ofChange fnReqOkSpec)

/-- ITS FALSE NEIGHBOUR: 'it returns false'. Refute it at one input. -/
def fnReqOkWrong : ChangeSpec := { name := "fnReqOk", fn := fun _ => fun
  | [d] => { results := [.lit (.bool false)], args := [d] }
  | _ => none }
def FnReqOkWrongFalsely : Prop := fnReqOkRow.holds Try.pinned (OpenSpec.ofChange fnReqOkWrong)

/-- 'laws.FnExactMktNew': WHATEVER THE INPUT: true; the input reads as it did. -/
def fnExactMktNewSpec : ChangeSpec := { name := "fnExactMktNew", fn := fun _ => fun
  | [d] => { results := [.lit (.bool true)], args := [d] }
  | _ => none }
def fnExactMktNewRow : OpenClaim := { program := "ytnppgfnlfdnkpaa", sum := "f09dfb5184ed5429feb00c5c9db7a2a767e52636584ce8e3a9bfd24f65ebc943", func := "loop.example/stileway/laws.FnExactMktNew", spec := "fnExactMktNew", apart := false }
def FnExactMktNewSaid : Prop := fnExactMktNewRow.holds Try.pinned (OpenSpec.ofChange fnExactMktNewSpec)

/-- ITS FALSE NEIGHBOUR: 'it returns false'. Refute it at one input. -/
def fnExactMktNewWrong : ChangeSpec := { name := "fnExactMktNew", fn := fun _ => fun
  | [d] => { results := [.lit (.bool false)], args := [d] }
  | _ => none }
def FnExactMktNewWrongFalsely : Prop := fnExactMktNewRow.holds Try.pinned (OpenSpec.ofChange fnExactMktNewWrong)

/-- 'laws.FnExactMktOk': WHATEVER THE INPUT: true; the input reads as it did. -/
def fnExactMktOkSpec : ChangeSpec := { name := "fnExactMktOk", fn := fun _ => fun
  | [d] => { results := [.lit (.bool true)], args := [d] }
  | _ => none }
def fnExactMktOkRow : OpenClaim := { program := "ytnppgfnlfdnkpaa", sum := "f09dfb5184ed5429feb00c5c9db7a2a767e52636584ce8e3a9bfd24f65ebc943", func := "loop.example/stileway/laws.FnExactMktOk", spec := "fnExactMktOk", unfollowed := true, recurses := true, apart := false }
def FnExactMktOkSaid : Prop := fnExactMktOkRow.holds Try.pinned (OpenSpec.ofChange fnExactMktOkSpec)

/-- ITS FALSE NEIGHBOUR: 'it returns false'. Refute it at one input. -/
def fnExactMktOkWrong : ChangeSpec := { name := "fnExactMktOk", fn := fun _ => fun
  | [d] => { results := [.lit (.bool false)], args := [d] }
  | _ => none }
def FnExactMktOkWrongFalsely : Prop := fnExactMktOkRow.holds Try.pinned (OpenSpec.ofChange fnExactMktOkWrong)

/-- 'laws.FnExactMktRows': WHATEVER THE INPUT: true; the input reads as it did. -/
def fnExactMktRowsSpec : ChangeSpec := { name := "fnExactMktRows", fn := fun _ => fun
  | [d] => { results := [.lit (.bool true)], args := [d] }
  | _ => none }
def fnExactMktRowsRow : OpenClaim := { program := "ytnppgfnlfdnkpaa", sum := "f09dfb5184ed5429feb00c5c9db7a2a767e52636584ce8e3a9bfd24f65ebc943", func := "loop.example/stileway/laws.FnExactMktRows", spec := "fnExactMktRows", unfollowed := true, recurses := true, apart := false }
def FnExactMktRowsSaid : Prop := fnExactMktRowsRow.holds Try.pinned (OpenSpec.ofChange fnExactMktRowsSpec)

/-- ITS FALSE NEIGHBOUR: 'it returns false'. Refute it at one input. -/
def fnExactMktRowsWrong : ChangeSpec := { name := "fnExactMktRows", fn := fun _ => fun
  | [d] => { results := [.lit (.bool false)], args := [d] }
  | _ => none }
def FnExactMktRowsWrongFalsely : Prop := fnExactMktRowsRow.holds Try.pinned (OpenSpec.ofChange fnExactMktRowsWrong)

/-- 'laws.FnExactMktDealOf': WHATEVER THE INPUT: true; the input reads as it did. -/
def fnExactMktDealOfSpec : ChangeSpec := { name := "fnExactMktDealOf", fn := fun _ => fun
  | [d1, d2] => { results := [.lit (.bool true)], args := [d1, d2] }
  | _ => none }
def fnExactMktDealOfRow : OpenClaim := { program := "ytnppgfnlfdnkpaa", sum := "f09dfb5184ed5429feb00c5c9db7a2a767e52636584ce8e3a9bfd24f65ebc943", func := "loop.example/stileway/laws.FnExactMktDealOf", spec := "fnExactMktDealOf", unfollowed := true, recurses := true, apart := false }
def FnExactMktDealOfSaid : Prop := fnExactMktDealOfRow.holds Try.pinned (OpenSpec.ofChange fnExactMktDealOfSpec)

/-- ITS FALSE NEIGHBOUR: 'it returns false'. Refute it at one input. -/
def fnExactMktDealOfWrong : ChangeSpec := { name := "fnExactMktDealOf", fn := fun _ => fun
  | [d1, d2] => { results := [.lit (.bool false)], args := [d1, d2] }
  | _ => none }
def FnExactMktDealOfWrongFalsely : Prop := fnExactMktDealOfRow.holds Try.pinned (OpenSpec.ofChange fnExactMktDealOfWrong)

/-- 'laws.FnExactReqOk': WHATEVER THE INPUT: true; the input reads as it did. -/
def fnExactReqOkSpec : ChangeSpec := { name := "fnExactReqOk", fn := fun _ => fun
  | [d] => { results := [.lit (.bool true)], args := [d] }
  | _ => none }
def fnExactReqOkRow : OpenClaim := { program := "ytnppgfnlfdnkpaa", sum := "f09dfb5184ed5429feb00c5c9db7a2a767e52636584ce8e3a9bfd24f65ebc943", func := "loop.example/stileway/laws.FnExactReqOk", spec := "fnExactReqOk", apart := false }
def FnExactReqOkSaid : Prop := fnExactReqOkRow.holds Try.pinned (OpenSpec.ofChange fnExactReqOkSpec)

/-- ITS FALSE NEIGHBOUR: 'it returns false'. Refute it at one input. -/
def fnExactReqOkWrong : ChangeSpec := { name := "fnExactReqOk", fn := fun _ => fun
  | [d] => { results := [.lit (.bool false)], args := [d] }
  | _ => none }
def FnExactReqOkWrongFalsely : Prop := fnExactReqOkRow.holds Try.pinned (OpenSpec.ofChange fnExactReqOkWrong)

/-- 'laws.FnExactMktTick': WHATEVER THE INPUT: true; the input reads as it did. -/
def fnExactMktTickSpec : ChangeSpec := { name := "fnExactMktTick", fn := fun _ => fun
  | [d] => { results := [.lit (.bool true)], args := [d] }
  | _ => none }
def fnExactMktTickRow : OpenClaim := { program := "ytnppgfnlfdnkpaa", sum := "f09dfb5184ed5429feb00c5c9db7a2a767e52636584ce8e3a9bfd24f65ebc943", func := "loop.example/stileway/laws.FnExactMktTick", spec := "fnExactMktTick", unfollowed := true, recurses := true, apart := false }
def FnExactMktTickSaid : Prop := fnExactMktTickRow.holds Try.pinned (OpenSpec.ofChange fnExactMktTickSpec)

/-- ITS FALSE NEIGHBOUR: 'it returns false'. Refute it at one input. -/
def fnExactMktTickWrong : ChangeSpec := { name := "fnExactMktTick", fn := fun _ => fun
  | [d] => { results := [.lit (.bool false)], args := [d] }
  | _ => none }
def FnExactMktTickWrongFalsely : Prop := fnExactMktTickRow.holds Try.pinned (OpenSpec.ofChange fnExactMktTickWrong)

/-- 'laws.FnExactMktOffers': WHATEVER THE INPUT: true; the input reads as it did. -/
def fnExactMktOffersSpec : ChangeSpec := { name := "fnExactMktOffers", fn := fun _ => fun
  | [d] => { results := [.lit (.bool true)], args := [d] }
  | _ => none }
def fnExactMktOffersRow : OpenClaim := { program := "ytnppgfnlfdnkpaa", sum := "f09dfb5184ed5429feb00c5c9db7a2a767e52636584ce8e3a9bfd24f65ebc943", func := "loop.example/stileway/laws.FnExactMktOffers", spec := "fnExactMktOffers", apart := false }
def FnExactMktOffersSaid : Prop := fnExactMktOffersRow.holds Try.pinned (OpenSpec.ofChange fnExactMktOffersSpec)

/-- ITS FALSE NEIGHBOUR: 'it returns false'. Refute it at one input. -/
def fnExactMktOffersWrong : ChangeSpec := { name := "fnExactMktOffers", fn := fun _ => fun
  | [d] => { results := [.lit (.bool false)], args := [d] }
  | _ => none }
def FnExactMktOffersWrongFalsely : Prop := fnExactMktOffersRow.holds Try.pinned (OpenSpec.ofChange fnExactMktOffersWrong)

/-- 'laws.FnExactMktFor': WHATEVER THE INPUT: true; the input reads as it did. -/
def fnExactMktForSpec : ChangeSpec := { name := "fnExactMktFor", fn := fun _ => fun
  | [d1, d2] => { results := [.lit (.bool true)], args := [d1, d2] }
  | _ => none }
def fnExactMktForRow : OpenClaim := { program := "ytnppgfnlfdnkpaa", sum := "f09dfb5184ed5429feb00c5c9db7a2a767e52636584ce8e3a9bfd24f65ebc943", func := "loop.example/stileway/laws.FnExactMktFor", spec := "fnExactMktFor", apart := false }
def FnExactMktForSaid : Prop := fnExactMktForRow.holds Try.pinned (OpenSpec.ofChange fnExactMktForSpec)

/-- ITS FALSE NEIGHBOUR: 'it returns false'. Refute it at one input. -/
def fnExactMktForWrong : ChangeSpec := { name := "fnExactMktFor", fn := fun _ => fun
  | [d1, d2] => { results := [.lit (.bool false)], args := [d1, d2] }
  | _ => none }
def FnExactMktForWrongFalsely : Prop := fnExactMktForRow.holds Try.pinned (OpenSpec.ofChange fnExactMktForWrong)

/- THE SECOND FORM. 'bulk': how many values and letters a reading holds, each counted each time it is reached (what is shared counts as often as it is met; a slice's spare places count too). A statement '..UptoSaid' is the law's where the arguments, and the package variables that the reading takes, are together of bulk at most 1048576: NARROWER than '..Said'. Prove '..Said' where nothing that the law and all that it calls make is longer than what came in: it says more and counts as full. Else prove '..UptoSaid'. A law counts once. -/
mutual
def uptoBulk {H : Type} : DataW H → Nat
  | .lit (.string bytes) => bytes.length + 1
  | .lit _ => 1
  | .nil => 1
  | .ptr d => uptoBulk d + 1
  | .slice elems spare => uptoBulkAll elems + uptoBulkAll spare + 1
  | .agg parts => uptoBulkAll parts + 1
  | .iface _ d => uptoBulk d + 1
  | .map entries => uptoBulkEntries entries + 1
  | .held _ => 1
def uptoBulkAll {H : Type} : List (DataW H) → Nat
  | [] => 0
  | d :: r => uptoBulk d + uptoBulkAll r
def uptoBulkEntries {H : Type} : List (Lit × DataW H) → Nat
  | [] => 0
  | x :: r => uptoBulkEntry x + uptoBulkEntries r
def uptoBulkEntry {H : Type} : Lit × DataW H → Nat
  | (.string bytes, d) => bytes.length + uptoBulk d + 1
  | (_, d) => uptoBulk d + 1
 end
def uptoSmall : (H : Type) → List (DataW H) → Bool := fun _ ds => decide (uptoBulkAll ds ≤ 1048576)
def OpenSpec.upto (s : _root_.Go.ChangeSpec) : _root_.Go.OpenSpec := { _root_.Go.OpenSpec.ofChange s with cond := some uptoSmall }

/-- 'laws.FnMktNew', WHERE WHAT IT READS IS OF BULK AT MOST 1048576: true; the input reads as it did. -/
def fnMktNewUptoRow : OpenClaim := { program := "ytnppgfnlfdnkpaa", sum := "f09dfb5184ed5429feb00c5c9db7a2a767e52636584ce8e3a9bfd24f65ebc943", func := "loop.example/stileway/laws.FnMktNew", spec := "fnMktNew", unfollowed := true, recurses := true, apart := false, narrowed := true }
def FnMktNewUptoSaid : Prop := fnMktNewUptoRow.holds Try.pinned (OpenSpec.upto fnMktNewSpec)

/-- 'laws.FnMktTick', WHERE WHAT IT READS IS OF BULK AT MOST 1048576: true; the input reads as it did. -/
def fnMktTickUptoRow : OpenClaim := { program := "ytnppgfnlfdnkpaa", sum := "f09dfb5184ed5429feb00c5c9db7a2a767e52636584ce8e3a9bfd24f65ebc943", func := "loop.example/stileway/laws.FnMktTick", spec := "fnMktTick", unfollowed := true, recurses := true, apart := false, narrowed := true }
def FnMktTickUptoSaid : Prop := fnMktTickUptoRow.holds Try.pinned (OpenSpec.upto fnMktTickSpec)

/-- 'laws.FnMktEnds', WHERE WHAT IT READS IS OF BULK AT MOST 1048576: true; the input reads as it did. -/
def fnMktEndsUptoRow : OpenClaim := { program := "ytnppgfnlfdnkpaa", sum := "f09dfb5184ed5429feb00c5c9db7a2a767e52636584ce8e3a9bfd24f65ebc943", func := "loop.example/stileway/laws.FnMktEnds", spec := "fnMktEnds", unfollowed := true, recurses := true, apart := false, narrowed := true }
def FnMktEndsUptoSaid : Prop := fnMktEndsUptoRow.holds Try.pinned (OpenSpec.upto fnMktEndsSpec)

/-- 'laws.FnMktOffers', WHERE WHAT IT READS IS OF BULK AT MOST 1048576: true; the input reads as it did. -/
def fnMktOffersUptoRow : OpenClaim := { program := "ytnppgfnlfdnkpaa", sum := "f09dfb5184ed5429feb00c5c9db7a2a767e52636584ce8e3a9bfd24f65ebc943", func := "loop.example/stileway/laws.FnMktOffers", spec := "fnMktOffers", unfollowed := true, recurses := true, apart := false, narrowed := true }
def FnMktOffersUptoSaid : Prop := fnMktOffersUptoRow.holds Try.pinned (OpenSpec.upto fnMktOffersSpec)

/-- 'laws.FnMktDealOf', WHERE WHAT IT READS IS OF BULK AT MOST 1048576: true; the input reads as it did. -/
def fnMktDealOfUptoRow : OpenClaim := { program := "ytnppgfnlfdnkpaa", sum := "f09dfb5184ed5429feb00c5c9db7a2a767e52636584ce8e3a9bfd24f65ebc943", func := "loop.example/stileway/laws.FnMktDealOf", spec := "fnMktDealOf", unfollowed := true, recurses := true, apart := false, narrowed := true }
def FnMktDealOfUptoSaid : Prop := fnMktDealOfUptoRow.holds Try.pinned (OpenSpec.upto fnMktDealOfSpec)

/-- 'laws.FnMktRows', WHERE WHAT IT READS IS OF BULK AT MOST 1048576: true; the input reads as it did. -/
def fnMktRowsUptoRow : OpenClaim := { program := "ytnppgfnlfdnkpaa", sum := "f09dfb5184ed5429feb00c5c9db7a2a767e52636584ce8e3a9bfd24f65ebc943", func := "loop.example/stileway/laws.FnMktRows", spec := "fnMktRows", unfollowed := true, recurses := true, apart := false, narrowed := true }
def FnMktRowsUptoSaid : Prop := fnMktRowsUptoRow.holds Try.pinned (OpenSpec.upto fnMktRowsSpec)

/-- 'laws.FnReqOk', WHERE WHAT IT READS IS OF BULK AT MOST 1048576: true; the input reads as it did. -/
def fnReqOkUptoRow : OpenClaim := { program := "ytnppgfnlfdnkpaa", sum := "f09dfb5184ed5429feb00c5c9db7a2a767e52636584ce8e3a9bfd24f65ebc943", func := "loop.example/stileway/laws.FnReqOk", spec := "fnReqOk", apart := false, narrowed := true }
def FnReqOkUptoSaid : Prop := fnReqOkUptoRow.holds Try.pinned (OpenSpec.upto fnReqOkSpec)

/-- 'laws.FnExactMktNew', WHERE WHAT IT READS IS OF BULK AT MOST 1048576: true; the input reads as it did. -/
def fnExactMktNewUptoRow : OpenClaim := { program := "ytnppgfnlfdnkpaa", sum := "f09dfb5184ed5429feb00c5c9db7a2a767e52636584ce8e3a9bfd24f65ebc943", func := "loop.example/stileway/laws.FnExactMktNew", spec := "fnExactMktNew", apart := false, narrowed := true }
def FnExactMktNewUptoSaid : Prop := fnExactMktNewUptoRow.holds Try.pinned (OpenSpec.upto fnExactMktNewSpec)

/-- 'laws.FnExactMktOk', WHERE WHAT IT READS IS OF BULK AT MOST 1048576: true; the input reads as it did. -/
def fnExactMktOkUptoRow : OpenClaim := { program := "ytnppgfnlfdnkpaa", sum := "f09dfb5184ed5429feb00c5c9db7a2a767e52636584ce8e3a9bfd24f65ebc943", func := "loop.example/stileway/laws.FnExactMktOk", spec := "fnExactMktOk", unfollowed := true, recurses := true, apart := false, narrowed := true }
def FnExactMktOkUptoSaid : Prop := fnExactMktOkUptoRow.holds Try.pinned (OpenSpec.upto fnExactMktOkSpec)

/-- 'laws.FnExactMktRows', WHERE WHAT IT READS IS OF BULK AT MOST 1048576: true; the input reads as it did. -/
def fnExactMktRowsUptoRow : OpenClaim := { program := "ytnppgfnlfdnkpaa", sum := "f09dfb5184ed5429feb00c5c9db7a2a767e52636584ce8e3a9bfd24f65ebc943", func := "loop.example/stileway/laws.FnExactMktRows", spec := "fnExactMktRows", unfollowed := true, recurses := true, apart := false, narrowed := true }
def FnExactMktRowsUptoSaid : Prop := fnExactMktRowsUptoRow.holds Try.pinned (OpenSpec.upto fnExactMktRowsSpec)

/-- 'laws.FnExactMktDealOf', WHERE WHAT IT READS IS OF BULK AT MOST 1048576: true; the input reads as it did. -/
def fnExactMktDealOfUptoRow : OpenClaim := { program := "ytnppgfnlfdnkpaa", sum := "f09dfb5184ed5429feb00c5c9db7a2a767e52636584ce8e3a9bfd24f65ebc943", func := "loop.example/stileway/laws.FnExactMktDealOf", spec := "fnExactMktDealOf", unfollowed := true, recurses := true, apart := false, narrowed := true }
def FnExactMktDealOfUptoSaid : Prop := fnExactMktDealOfUptoRow.holds Try.pinned (OpenSpec.upto fnExactMktDealOfSpec)

/-- 'laws.FnExactReqOk', WHERE WHAT IT READS IS OF BULK AT MOST 1048576: true; the input reads as it did. -/
def fnExactReqOkUptoRow : OpenClaim := { program := "ytnppgfnlfdnkpaa", sum := "f09dfb5184ed5429feb00c5c9db7a2a767e52636584ce8e3a9bfd24f65ebc943", func := "loop.example/stileway/laws.FnExactReqOk", spec := "fnExactReqOk", apart := false, narrowed := true }
def FnExactReqOkUptoSaid : Prop := fnExactReqOkUptoRow.holds Try.pinned (OpenSpec.upto fnExactReqOkSpec)

/-- 'laws.FnExactMktTick', WHERE WHAT IT READS IS OF BULK AT MOST 1048576: true; the input reads as it did. -/
def fnExactMktTickUptoRow : OpenClaim := { program := "ytnppgfnlfdnkpaa", sum := "f09dfb5184ed5429feb00c5c9db7a2a767e52636584ce8e3a9bfd24f65ebc943", func := "loop.example/stileway/laws.FnExactMktTick", spec := "fnExactMktTick", unfollowed := true, recurses := true, apart := false, narrowed := true }
def FnExactMktTickUptoSaid : Prop := fnExactMktTickUptoRow.holds Try.pinned (OpenSpec.upto fnExactMktTickSpec)

/-- 'laws.FnExactMktOffers', WHERE WHAT IT READS IS OF BULK AT MOST 1048576: true; the input reads as it did. -/
def fnExactMktOffersUptoRow : OpenClaim := { program := "ytnppgfnlfdnkpaa", sum := "f09dfb5184ed5429feb00c5c9db7a2a767e52636584ce8e3a9bfd24f65ebc943", func := "loop.example/stileway/laws.FnExactMktOffers", spec := "fnExactMktOffers", apart := false, narrowed := true }
def FnExactMktOffersUptoSaid : Prop := fnExactMktOffersUptoRow.holds Try.pinned (OpenSpec.upto fnExactMktOffersSpec)

/-- 'laws.FnExactMktFor', WHERE WHAT IT READS IS OF BULK AT MOST 1048576: true; the input reads as it did. -/
def fnExactMktForUptoRow : OpenClaim := { program := "ytnppgfnlfdnkpaa", sum := "f09dfb5184ed5429feb00c5c9db7a2a767e52636584ce8e3a9bfd24f65ebc943", func := "loop.example/stileway/laws.FnExactMktFor", spec := "fnExactMktFor", apart := false, narrowed := true }
def FnExactMktForUptoSaid : Prop := fnExactMktForUptoRow.holds Try.pinned (OpenSpec.upto fnExactMktForSpec)

end Rows
end Go.Proofs.Ytnppgfnlfdnkpaa
