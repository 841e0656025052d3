/-
  No cell of these rows narrows 'for every input' (looked for: loops, veiled, ifaces, maps, wideKeys, modest, calm, conditions, laid).
  DERIVED. THE GIVEN ROWS OF THIS SEAT. 7 by the template 'for every input the law returns true; each argument reads behind the call as it read before'; 0 by the template 'total and deterministic' (their statements: YtdbnimgbmjeplaaTotals.lean).
  GIVEN WITH THE SEED: the statements are not yours to turn. If you find one false, say at which input.
  Laid BY PROGRAM, IN A SANDBOX (cutbox-rows.mjs): the forced cells as the released guide's own fill.sh prints them over the translation d8281d8dc0196349… (all of the seat's roots in one cut). By AI agents, Wed Nov 11 2026. No macro, syntax, notation, axiom, sorry.
-/
import Derived.Test.YtdbnimgbmjeplaaChecked
import GoSem.Claim
import GoSem.ClaimJoined
import GoSem.ClaimMapViews
import Derived.JoinedTies
import Derived.KernelRfl
namespace Go.Proofs.Ytdbnimgbmjeplaa
/- THE CELL 'sum', in the pinned program and in every row, IS THE sha256 OF THE DUMP (.gsa) THAT YtdbnimgbmjeplaaProg.lean LOADS. Nothing in Lean hashes anything: it is a label: what it is worth is what the hold of that sum in a sandbox is worth. -/
noncomputable def Try.pinned : Pinned := { name := "ytdbnimgbmjeplaa", sum := "d8281d8dc0196349e178d5d97374e478d147ddfea2dc702559d56fcd6b50c112", checked := Try.checked }
namespace Rows
def none {H : Type} : Left H := { results := [], args := [] }

/-- 'laws.FnTreClash': WHATEVER THE INPUT: true; the input reads as it did. -/
def fnTreClashSpec : ChangeSpec := { name := "fnTreClash", fn := fun _ => fun
  | [d] => { results := [.lit (.bool true)], args := [d] }
  | _ => none }
def fnTreClashRow : OpenClaim := { program := "ytdbnimgbmjeplaa", sum := "d8281d8dc0196349e178d5d97374e478d147ddfea2dc702559d56fcd6b50c112", func := "loop.example/stileway/laws.FnTreClash", spec := "fnTreClash", recurses := true, apart := false }
def FnTreClashSaid : Prop := fnTreClashRow.holds Try.pinned (OpenSpec.ofChange fnTreClashSpec)

/-- ITS FALSE NEIGHBOUR: 'it returns false'. Refute it at one input. -/
def fnTreClashWrong : ChangeSpec := { name := "fnTreClash", fn := fun _ => fun
  | [d] => { results := [.lit (.bool false)], args := [d] }
  | _ => none }
def FnTreClashWrongFalsely : Prop := fnTreClashRow.holds Try.pinned (OpenSpec.ofChange fnTreClashWrong)

/-- 'laws.FnConProof': WHATEVER THE INPUT: true; the input reads as it did. -/
def fnConProofSpec : ChangeSpec := { name := "fnConProof", fn := fun _ => fun
  | [d] => { results := [.lit (.bool true)], args := [d] }
  | _ => none }
def fnConProofRow : OpenClaim := { program := "ytdbnimgbmjeplaa", sum := "d8281d8dc0196349e178d5d97374e478d147ddfea2dc702559d56fcd6b50c112", func := "loop.example/stileway/laws.FnConProof", spec := "fnConProof", recurses := true, apart := false }
def FnConProofSaid : Prop := fnConProofRow.holds Try.pinned (OpenSpec.ofChange fnConProofSpec)

/-- ITS FALSE NEIGHBOUR: 'it returns false'. Refute it at one input. -/
def fnConProofWrong : ChangeSpec := { name := "fnConProof", fn := fun _ => fun
  | [d] => { results := [.lit (.bool false)], args := [d] }
  | _ => none }
def FnConProofWrongFalsely : Prop := fnConProofRow.holds Try.pinned (OpenSpec.ofChange fnConProofWrong)

/-- 'laws.FnConCheck': WHATEVER THE INPUT: true; the input reads as it did. -/
def fnConCheckSpec : ChangeSpec := { name := "fnConCheck", fn := fun _ => fun
  | [d] => { results := [.lit (.bool true)], args := [d] }
  | _ => none }
def fnConCheckRow : OpenClaim := { program := "ytdbnimgbmjeplaa", sum := "d8281d8dc0196349e178d5d97374e478d147ddfea2dc702559d56fcd6b50c112", func := "loop.example/stileway/laws.FnConCheck", spec := "fnConCheck", recurses := true, apart := false }
def FnConCheckSaid : Prop := fnConCheckRow.holds Try.pinned (OpenSpec.ofChange fnConCheckSpec)

/-- ITS FALSE NEIGHBOUR: 'it returns false'. Refute it at one input. -/
def fnConCheckWrong : ChangeSpec := { name := "fnConCheck", fn := fun _ => fun
  | [d] => { results := [.lit (.bool false)], args := [d] }
  | _ => none }
def FnConCheckWrongFalsely : Prop := fnConCheckRow.holds Try.pinned (OpenSpec.ofChange fnConCheckWrong)

/-- 'laws.FnConStep': WHATEVER THE INPUT: true; the input reads as it did. -/
def fnConStepSpec : ChangeSpec := { name := "fnConStep", fn := fun _ => fun
  | [d] => { results := [.lit (.bool true)], args := [d] }
  | _ => none }
def fnConStepRow : OpenClaim := { program := "ytdbnimgbmjeplaa", sum := "d8281d8dc0196349e178d5d97374e478d147ddfea2dc702559d56fcd6b50c112", func := "loop.example/stileway/laws.FnConStep", spec := "fnConStep", recurses := true, apart := false }
def FnConStepSaid : Prop := fnConStepRow.holds Try.pinned (OpenSpec.ofChange fnConStepSpec)

/-- ITS FALSE NEIGHBOUR: 'it returns false'. Refute it at one input. -/
def fnConStepWrong : ChangeSpec := { name := "fnConStep", fn := fun _ => fun
  | [d] => { results := [.lit (.bool false)], args := [d] }
  | _ => none }
def FnConStepWrongFalsely : Prop := fnConStepRow.holds Try.pinned (OpenSpec.ofChange fnConStepWrong)

/-- 'laws.FnExactTreClash': WHATEVER THE INPUT: true; the input reads as it did. -/
def fnExactTreClashSpec : ChangeSpec := { name := "fnExactTreClash", fn := fun _ => fun
  | [d1, d2, d3, d4] => { results := [.lit (.bool true)], args := [d1, d2, d3, d4] }
  | _ => none }
def fnExactTreClashRow : OpenClaim := { program := "ytdbnimgbmjeplaa", sum := "d8281d8dc0196349e178d5d97374e478d147ddfea2dc702559d56fcd6b50c112", func := "loop.example/stileway/laws.FnExactTreClash", spec := "fnExactTreClash", recurses := true, apart := false }
def FnExactTreClashSaid : Prop := fnExactTreClashRow.holds Try.pinned (OpenSpec.ofChange fnExactTreClashSpec)

/-- ITS FALSE NEIGHBOUR: 'it returns false'. Refute it at one input. -/
def fnExactTreClashWrong : ChangeSpec := { name := "fnExactTreClash", fn := fun _ => fun
  | [d1, d2, d3, d4] => { results := [.lit (.bool false)], args := [d1, d2, d3, d4] }
  | _ => none }
def FnExactTreClashWrongFalsely : Prop := fnExactTreClashRow.holds Try.pinned (OpenSpec.ofChange fnExactTreClashWrong)

/-- 'laws.FnExactConProof': WHATEVER THE INPUT: true; the input reads as it did. -/
def fnExactConProofSpec : ChangeSpec := { name := "fnExactConProof", fn := fun _ => fun
  | [d1, d2] => { results := [.lit (.bool true)], args := [d1, d2] }
  | _ => none }
def fnExactConProofRow : OpenClaim := { program := "ytdbnimgbmjeplaa", sum := "d8281d8dc0196349e178d5d97374e478d147ddfea2dc702559d56fcd6b50c112", func := "loop.example/stileway/laws.FnExactConProof", spec := "fnExactConProof", recurses := true, apart := false }
def FnExactConProofSaid : Prop := fnExactConProofRow.holds Try.pinned (OpenSpec.ofChange fnExactConProofSpec)

/-- ITS FALSE NEIGHBOUR: 'it returns false'. Refute it at one input. -/
def fnExactConProofWrong : ChangeSpec := { name := "fnExactConProof", fn := fun _ => fun
  | [d1, d2] => { results := [.lit (.bool false)], args := [d1, d2] }
  | _ => none }
def FnExactConProofWrongFalsely : Prop := fnExactConProofRow.holds Try.pinned (OpenSpec.ofChange fnExactConProofWrong)

/-- 'laws.FnExactConCheck': WHATEVER THE INPUT: true; the input reads as it did. -/
def fnExactConCheckSpec : ChangeSpec := { name := "fnExactConCheck", fn := fun _ => fun
  | [d1, d2, d3, d4, d5] => { results := [.lit (.bool true)], args := [d1, d2, d3, d4, d5] }
  | _ => none }
def fnExactConCheckRow : OpenClaim := { program := "ytdbnimgbmjeplaa", sum := "d8281d8dc0196349e178d5d97374e478d147ddfea2dc702559d56fcd6b50c112", func := "loop.example/stileway/laws.FnExactConCheck", spec := "fnExactConCheck", recurses := true, apart := false }
def FnExactConCheckSaid : Prop := fnExactConCheckRow.holds Try.pinned (OpenSpec.ofChange fnExactConCheckSpec)

/-- ITS FALSE NEIGHBOUR: 'it returns false'. Refute it at one input. -/
def fnExactConCheckWrong : ChangeSpec := { name := "fnExactConCheck", fn := fun _ => fun
  | [d1, d2, d3, d4, d5] => { results := [.lit (.bool false)], args := [d1, d2, d3, d4, d5] }
  | _ => none }
def FnExactConCheckWrongFalsely : Prop := fnExactConCheckRow.holds Try.pinned (OpenSpec.ofChange fnExactConCheckWrong)

/- THE SECOND FORM. 'bulk': how many values and letters a reading holds, each counted each time it is reached (what is shared counts as often as it is met; a slice's spare places count too). A statement '..UptoSaid' is the law's where the arguments, and the package variables that the reading takes, are together of bulk at most 1048576: NARROWER than '..Said'. Prove '..Said' where nothing that the law and all that it calls make is longer than what came in: it says more and counts as full. Else prove '..UptoSaid'. A law counts once. -/
mutual
def uptoBulk {H : Type} : DataW H → Nat
  | .lit (.string bytes) => bytes.length + 1
  | .lit _ => 1
  | .nil => 1
  | .ptr d => uptoBulk d + 1
  | .slice elems spare => uptoBulkAll elems + uptoBulkAll spare + 1
  | .agg parts => uptoBulkAll parts + 1
  | .iface _ d => uptoBulk d + 1
  | .map entries => uptoBulkEntries entries + 1
  | .held _ => 1
def uptoBulkAll {H : Type} : List (DataW H) → Nat
  | [] => 0
  | d :: r => uptoBulk d + uptoBulkAll r
def uptoBulkEntries {H : Type} : List (Lit × DataW H) → Nat
  | [] => 0
  | x :: r => uptoBulkEntry x + uptoBulkEntries r
def uptoBulkEntry {H : Type} : Lit × DataW H → Nat
  | (.string bytes, d) => bytes.length + uptoBulk d + 1
  | (_, d) => uptoBulk d + 1
 end
def uptoSmall : (H : Type) → List (DataW H) → Bool := fun _ ds => decide (uptoBulkAll ds ≤ 1048576)
def OpenSpec.upto (s : _root_.Go.ChangeSpec) : _root_.Go.OpenSpec := { _root_.Go.OpenSpec.ofChange s with cond := some uptoSmall }

/-- 'laws.FnTreClash', WHERE WHAT IT READS IS OF BULK AT MOST 1048576: true; the input reads as it did. -/
def fnTreClashUptoRow : OpenClaim := { program := "ytdbnimgbmjeplaa", sum := "d8281d8dc0196349e178d5d97374e478d147ddfea2dc702559d56fcd6b50c112", func := "loop.example/stileway/laws.FnTreClash", spec := "fnTreClash", recurses := true, apart := false, narrowed := true }
def FnTreClashUptoSaid : Prop := fnTreClashUptoRow.holds Try.pinned (OpenSpec.upto fnTreClashSpec)

/-- 'laws.FnConProof', WHERE WHAT IT READS IS OF BULK AT MOST 1048576: true; the input reads as it did. -/
def fnConProofUptoRow : OpenClaim := { program := "ytdbnimgbmjeplaa", sum := "d8281d8dc0196349e178d5d97374e478d147ddfea2dc702559d56fcd6b50c112", func := "loop.example/stileway/laws.FnConProof", spec := "fnConProof", recurses := true, apart := false, narrowed := true }
def FnConProofUptoSaid : Prop := fnConProofUptoRow.holds Try.pinned (OpenSpec.upto fnConProofSpec)

/-- 'laws.FnConCheck', WHERE WHAT IT READS IS OF BULK AT MOST 1048576: true; the input reads as it did. -/
def fnConCheckUptoRow : OpenClaim := { program := "ytdbnimgbmjeplaa", sum := "d8281d8dc0196349e178d5d97374e478d147ddfea2dc702559d56fcd6b50c112", func := "loop.example/stileway/laws.FnConCheck", spec := "fnConCheck", recurses := true, apart := false, narrowed := true }
def FnConCheckUptoSaid : Prop := fnConCheckUptoRow.holds Try.pinned (OpenSpec.upto fnConCheckSpec)

/-- 'laws.FnConStep', WHERE WHAT IT READS IS OF BULK AT MOST 1048576: true; the input reads as it did. -/
def fnConStepUptoRow : OpenClaim := { program := "ytdbnimgbmjeplaa", sum := "d8281d8dc0196349e178d5d97374e478d147ddfea2dc702559d56fcd6b50c112", func := "loop.example/stileway/laws.FnConStep", spec := "fnConStep", recurses := true, apart := false, narrowed := true }
def FnConStepUptoSaid : Prop := fnConStepUptoRow.holds Try.pinned (OpenSpec.upto fnConStepSpec)

/-- 'laws.FnExactTreClash', WHERE WHAT IT READS IS OF BULK AT MOST 1048576: true; the input reads as it did. -/
def fnExactTreClashUptoRow : OpenClaim := { program := "ytdbnimgbmjeplaa", sum := "d8281d8dc0196349e178d5d97374e478d147ddfea2dc702559d56fcd6b50c112", func := "loop.example/stileway/laws.FnExactTreClash", spec := "fnExactTreClash", recurses := true, apart := false, narrowed := true }
def FnExactTreClashUptoSaid : Prop := fnExactTreClashUptoRow.holds Try.pinned (OpenSpec.upto fnExactTreClashSpec)

/-- 'laws.FnExactConProof', WHERE WHAT IT READS IS OF BULK AT MOST 1048576: true; the input reads as it did. -/
def fnExactConProofUptoRow : OpenClaim := { program := "ytdbnimgbmjeplaa", sum := "d8281d8dc0196349e178d5d97374e478d147ddfea2dc702559d56fcd6b50c112", func := "loop.example/stileway/laws.FnExactConProof", spec := "fnExactConProof", recurses := true, apart := false, narrowed := true }
def FnExactConProofUptoSaid : Prop := fnExactConProofUptoRow.holds Try.pinned (OpenSpec.upto fnExactConProofSpec)

/-- 'laws.FnExactConCheck', WHERE WHAT IT READS IS OF BULK AT MOST 1048576: true; the input reads as it did. -/
def fnExactConCheckUptoRow : OpenClaim := { program := "ytdbnimgbmjeplaa", sum := "d8281d8dc0196349e178d5d97374e478d147ddfea2dc702559d56fcd6b50c112", func := "loop.example/stileway/laws.FnExactConCheck", spec := "fnExactConCheck", recurses := true, apart := false, narrowed := true }
def FnExactConCheckUptoSaid : Prop := fnExactConCheckUptoRow.holds Try.pinned (OpenSpec.upto fnExactConCheckSpec)

end Rows
end Go.Proofs.Ytdbnimgbmjeplaa
