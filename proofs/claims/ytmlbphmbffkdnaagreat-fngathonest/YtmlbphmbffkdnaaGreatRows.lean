/-
  No cell of these rows narrows 'for every input' (looked for: loops, veiled, ifaces, maps, wideKeys, modest, calm, conditions, laid).
  DERIVED. THE GIVEN ROWS OF THIS SEAT. 2 by the template 'for every input the law returns true; each argument reads behind the call as it read before'; 0 by the template 'total and deterministic' (their statements: YtmlbphmbffkdnaaGreatTotals.lean).
  GIVEN WITH THE SEED: the statements are not yours to turn. If you find one false, say at which input.
  Laid BY PROGRAM, IN A SANDBOX (cutbox-rows.mjs): the forced cells as the released guide's own fill.sh prints them over the translation 4ee64d7a6fa5ad85… (all of the seat's roots in one cut). By AI agents, Wed Nov 11 2026. No macro, syntax, notation, axiom, sorry.
-/
import Derived.Test.YtmlbphmbffkdnaaGreatChecked
import GoSem.Claim
import GoSem.ClaimJoined
import GoSem.ClaimMapViews
import Derived.JoinedTies
import Derived.KernelRfl
namespace Go.Proofs.YtmlbphmbffkdnaaGreat
/- THE CELL 'sum', in the pinned program and in every row, IS THE sha256 OF THE DUMP (.gsa) THAT YtmlbphmbffkdnaaGreatProg.lean LOADS. Nothing in Lean hashes anything: it is a label: what it is worth is what the hold of that sum in a sandbox is worth. -/
noncomputable def Tryz.pinned : Pinned := { name := "ytmlbphmbffkdnaagreat", sum := "4ee64d7a6fa5ad8500aa42244f774d820a8c1921c085f71a6a1d89bc60b9d1f7", checked := Tryz.checked }
namespace Rows
def none {H : Type} : Left H := { results := [], args := [] }

/-- 'laws.FnGatShow': WHATEVER THE INPUT: true; the input reads as it did. -/
def fnGatShowSpec : ChangeSpec := { name := "fnGatShow", fn := fun _ => fun
  | [d] => { results := [.lit (.bool true)], args := [d] }
  | _ => none }
def fnGatShowRow : OpenClaim := { program := "ytmlbphmbffkdnaagreat", sum := "4ee64d7a6fa5ad8500aa42244f774d820a8c1921c085f71a6a1d89bc60b9d1f7", func := "loop.example/stileway/laws.FnGatShow", spec := "fnGatShow", unfollowed := true, recurses := true, apart := false }
def FnGatShowSaid : Prop := fnGatShowRow.holds Tryz.pinned (OpenSpec.ofChange fnGatShowSpec)

/-- ITS FALSE NEIGHBOUR: 'it returns false'. Refute it at one input. -/
def fnGatShowWrong : ChangeSpec := { name := "fnGatShow", fn := fun _ => fun
  | [d] => { results := [.lit (.bool false)], args := [d] }
  | _ => none }
def FnGatShowWrongFalsely : Prop := fnGatShowRow.holds Tryz.pinned (OpenSpec.ofChange fnGatShowWrong)

/-- 'laws.FnGatHonest': WHATEVER THE INPUT: true; the input reads as it did. -/
def fnGatHonestSpec : ChangeSpec := { name := "fnGatHonest", fn := fun _ => fun
  | [d1, d2] => { results := [.lit (.bool true)], args := [d1, d2] }
  | _ => none }
def fnGatHonestRow : OpenClaim := { program := "ytmlbphmbffkdnaagreat", sum := "4ee64d7a6fa5ad8500aa42244f774d820a8c1921c085f71a6a1d89bc60b9d1f7", func := "loop.example/stileway/laws.FnGatHonest", spec := "fnGatHonest", unfollowed := true, recurses := true, apart := false }
def FnGatHonestSaid : Prop := fnGatHonestRow.holds Tryz.pinned (OpenSpec.ofChange fnGatHonestSpec)

/-- ITS FALSE NEIGHBOUR: 'it returns false'. Refute it at one input. -/
def fnGatHonestWrong : ChangeSpec := { name := "fnGatHonest", fn := fun _ => fun
  | [d1, d2] => { results := [.lit (.bool false)], args := [d1, d2] }
  | _ => none }
def FnGatHonestWrongFalsely : Prop := fnGatHonestRow.holds Tryz.pinned (OpenSpec.ofChange fnGatHonestWrong)

/- THE SECOND FORM. 'bulk': how many values and letters a reading holds, each counted each time it is reached (what is shared counts as often as it is met; a slice's spare places count too). A statement '..UptoSaid' is the law's where the arguments, and the package variables that the reading takes, are together of bulk at most 1048576: NARROWER than '..Said'. Prove '..Said' where nothing that the law and all that it calls make is longer than what came in: it says more and counts as full. Else prove '..UptoSaid'. A law counts once. -/
mutual
def uptoBulk {H : Type} : DataW H → Nat
  | .lit (.string bytes) => bytes.length + 1
  | .lit _ => 1
  | .nil => 1
  | .ptr d => uptoBulk d + 1
  | .slice elems spare => uptoBulkAll elems + uptoBulkAll spare + 1
  | .agg parts => uptoBulkAll parts + 1
  | .iface _ d => uptoBulk d + 1
  | .map entries => uptoBulkEntries entries + 1
  | .held _ => 1
def uptoBulkAll {H : Type} : List (DataW H) → Nat
  | [] => 0
  | d :: r => uptoBulk d + uptoBulkAll r
def uptoBulkEntries {H : Type} : List (Lit × DataW H) → Nat
  | [] => 0
  | x :: r => uptoBulkEntry x + uptoBulkEntries r
def uptoBulkEntry {H : Type} : Lit × DataW H → Nat
  | (.string bytes, d) => bytes.length + uptoBulk d + 1
  | (_, d) => uptoBulk d + 1
 end
def uptoSmall : (H : Type) → List (DataW H) → Bool := fun _ ds => decide (uptoBulkAll ds ≤ 1048576)
def OpenSpec.upto (s : _root_.Go.ChangeSpec) : _root_.Go.OpenSpec := { _root_.Go.OpenSpec.ofChange s with cond := some uptoSmall }

/-- 'laws.FnGatShow', WHERE WHAT IT READS IS OF BULK AT MOST 1048576: true; the input reads as it did. -/
def fnGatShowUptoRow : OpenClaim := { program := "ytmlbphmbffkdnaagreat", sum := "4ee64d7a6fa5ad8500aa42244f774d820a8c1921c085f71a6a1d89bc60b9d1f7", func := "loop.example/stileway/laws.FnGatShow", spec := "fnGatShow", unfollowed := true, recurses := true, apart := false, narrowed := true }
def FnGatShowUptoSaid : Prop := fnGatShowUptoRow.holds Tryz.pinned (OpenSpec.upto fnGatShowSpec)

/-- 'laws.FnGatHonest', WHERE WHAT IT READS IS OF BULK AT MOST 1048576: true; the input reads as it did. -/
def fnGatHonestUptoRow : OpenClaim := { program := "ytmlbphmbffkdnaagreat", sum := "4ee64d7a6fa5ad8500aa42244f774d820a8c1921c085f71a6a1d89bc60b9d1f7", func := "loop.example/stileway/laws.FnGatHonest", spec := "fnGatHonest", unfollowed := true, recurses := true, apart := false, narrowed := true }
def FnGatHonestUptoSaid : Prop := fnGatHonestUptoRow.holds Tryz.pinned (OpenSpec.upto fnGatHonestSpec)

end Rows
end Go.Proofs.YtmlbphmbffkdnaaGreat
