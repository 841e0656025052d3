/-
  No cell of these rows narrows 'for every input' (looked for: loops, veiled, ifaces, maps, wideKeys, modest, calm, conditions, laid).
  DERIVED. THE GIVEN ROWS OF THIS SEAT. 26 by the template 'for every input the law returns true; each argument reads behind the call as it read before'; 0 by the template 'total and deterministic' (their statements: YtchmjimfpamoeaaTotals.lean).
  GIVEN WITH THE SEED: the statements are not yours to turn. If you find one false, say at which input.
  Laid BY PROGRAM, IN A SANDBOX (cutbox-rows.mjs): the forced cells as the released guide's own fill.sh prints them over the translation 8d1b5a2cc8f963cf… (all of the seat's roots in one cut). By AI agents, Wed Nov 11 2026. No macro, syntax, notation, axiom, sorry.
-/
import Derived.Test.YtchmjimfpamoeaaChecked
import GoSem.Claim
import GoSem.ClaimJoined
import GoSem.ClaimMapViews
import Derived.JoinedTies
import Derived.KernelRfl
namespace Go.Proofs.Ytchmjimfpamoeaa
/- THE CELL 'sum', in the pinned program and in every row, IS THE sha256 OF THE DUMP (.gsa) THAT YtchmjimfpamoeaaProg.lean LOADS. Nothing in Lean hashes anything: it is a label: what it is worth is what the hold of that sum in a sandbox is worth. -/
noncomputable def Try.pinned : Pinned := { name := "ytchmjimfpamoeaa", sum := "8d1b5a2cc8f963cf88ba5fa592dc267bb246e85211f6c137cd3c77ae1281f586", checked := Try.checked }
namespace Rows
def none {H : Type} : Left H := { results := [], args := [] }

/-- 'laws.FnEntCap': WHATEVER THE INPUT: true; the input reads as it did. -/
def fnEntCapSpec : ChangeSpec := { name := "fnEntCap", fn := fun _ => fun
  | [d] => { results := [.lit (.bool true)], args := [d] }
  | _ => none }
def fnEntCapRow : OpenClaim := { program := "ytchmjimfpamoeaa", sum := "8d1b5a2cc8f963cf88ba5fa592dc267bb246e85211f6c137cd3c77ae1281f586", func := "loop.example/stileway/laws.FnEntCap", spec := "fnEntCap", apart := false }
def FnEntCapSaid : Prop := fnEntCapRow.holds Try.pinned (OpenSpec.ofChange fnEntCapSpec)

/-- ITS FALSE NEIGHBOUR: 'it returns false'. Refute it at one input. -/
def fnEntCapWrong : ChangeSpec := { name := "fnEntCap", fn := fun _ => fun
  | [d] => { results := [.lit (.bool false)], args := [d] }
  | _ => none }
def FnEntCapWrongFalsely : Prop := fnEntCapRow.holds Try.pinned (OpenSpec.ofChange fnEntCapWrong)

/-- 'laws.FnEntLeaf': WHATEVER THE INPUT: true; the input reads as it did. -/
def fnEntLeafSpec : ChangeSpec := { name := "fnEntLeaf", fn := fun _ => fun
  | [d1, d2] => { results := [.lit (.bool true)], args := [d1, d2] }
  | _ => none }
def fnEntLeafRow : OpenClaim := { program := "ytchmjimfpamoeaa", sum := "8d1b5a2cc8f963cf88ba5fa592dc267bb246e85211f6c137cd3c77ae1281f586", func := "loop.example/stileway/laws.FnEntLeaf", spec := "fnEntLeaf", apart := false }
def FnEntLeafSaid : Prop := fnEntLeafRow.holds Try.pinned (OpenSpec.ofChange fnEntLeafSpec)

/-- ITS FALSE NEIGHBOUR: 'it returns false'. Refute it at one input. -/
def fnEntLeafWrong : ChangeSpec := { name := "fnEntLeaf", fn := fun _ => fun
  | [d1, d2] => { results := [.lit (.bool false)], args := [d1, d2] }
  | _ => none }
def FnEntLeafWrongFalsely : Prop := fnEntLeafRow.holds Try.pinned (OpenSpec.ofChange fnEntLeafWrong)

/-- 'laws.FnEntAbout': WHATEVER THE INPUT: true; the input reads as it did. -/
def fnEntAboutSpec : ChangeSpec := { name := "fnEntAbout", fn := fun _ => fun
  | [d] => { results := [.lit (.bool true)], args := [d] }
  | _ => none }
def fnEntAboutRow : OpenClaim := { program := "ytchmjimfpamoeaa", sum := "8d1b5a2cc8f963cf88ba5fa592dc267bb246e85211f6c137cd3c77ae1281f586", func := "loop.example/stileway/laws.FnEntAbout", spec := "fnEntAbout", apart := false }
def FnEntAboutSaid : Prop := fnEntAboutRow.holds Try.pinned (OpenSpec.ofChange fnEntAboutSpec)

/-- ITS FALSE NEIGHBOUR: 'it returns false'. Refute it at one input. -/
def fnEntAboutWrong : ChangeSpec := { name := "fnEntAbout", fn := fun _ => fun
  | [d] => { results := [.lit (.bool false)], args := [d] }
  | _ => none }
def FnEntAboutWrongFalsely : Prop := fnEntAboutRow.holds Try.pinned (OpenSpec.ofChange fnEntAboutWrong)

/-- 'laws.FnOwnFits': WHATEVER THE INPUT: true; the input reads as it did. -/
def fnOwnFitsSpec : ChangeSpec := { name := "fnOwnFits", fn := fun _ => fun
  | [d] => { results := [.lit (.bool true)], args := [d] }
  | _ => none }
def fnOwnFitsRow : OpenClaim := { program := "ytchmjimfpamoeaa", sum := "8d1b5a2cc8f963cf88ba5fa592dc267bb246e85211f6c137cd3c77ae1281f586", func := "loop.example/stileway/laws.FnOwnFits", spec := "fnOwnFits", unfollowed := true, recurses := true, apart := false }
def FnOwnFitsSaid : Prop := fnOwnFitsRow.holds Try.pinned (OpenSpec.ofChange fnOwnFitsSpec)

/-- ITS FALSE NEIGHBOUR: 'it returns false'. Refute it at one input. -/
def fnOwnFitsWrong : ChangeSpec := { name := "fnOwnFits", fn := fun _ => fun
  | [d] => { results := [.lit (.bool false)], args := [d] }
  | _ => none }
def FnOwnFitsWrongFalsely : Prop := fnOwnFitsRow.holds Try.pinned (OpenSpec.ofChange fnOwnFitsWrong)

/-- 'laws.FnOwnPut': WHATEVER THE INPUT: true; the input reads as it did. -/
def fnOwnPutSpec : ChangeSpec := { name := "fnOwnPut", fn := fun _ => fun
  | [d] => { results := [.lit (.bool true)], args := [d] }
  | _ => none }
def fnOwnPutRow : OpenClaim := { program := "ytchmjimfpamoeaa", sum := "8d1b5a2cc8f963cf88ba5fa592dc267bb246e85211f6c137cd3c77ae1281f586", func := "loop.example/stileway/laws.FnOwnPut", spec := "fnOwnPut", unfollowed := true, recurses := true, apart := false }
def FnOwnPutSaid : Prop := fnOwnPutRow.holds Try.pinned (OpenSpec.ofChange fnOwnPutSpec)

/-- ITS FALSE NEIGHBOUR: 'it returns false'. Refute it at one input. -/
def fnOwnPutWrong : ChangeSpec := { name := "fnOwnPut", fn := fun _ => fun
  | [d] => { results := [.lit (.bool false)], args := [d] }
  | _ => none }
def FnOwnPutWrongFalsely : Prop := fnOwnPutRow.holds Try.pinned (OpenSpec.ofChange fnOwnPutWrong)

/-- 'laws.FnOwnFold': WHATEVER THE INPUT: true; the input reads as it did. -/
def fnOwnFoldSpec : ChangeSpec := { name := "fnOwnFold", fn := fun _ => fun
  | [d] => { results := [.lit (.bool true)], args := [d] }
  | _ => none }
def fnOwnFoldRow : OpenClaim := { program := "ytchmjimfpamoeaa", sum := "8d1b5a2cc8f963cf88ba5fa592dc267bb246e85211f6c137cd3c77ae1281f586", func := "loop.example/stileway/laws.FnOwnFold", spec := "fnOwnFold", unfollowed := true, recurses := true, apart := false }
def FnOwnFoldSaid : Prop := fnOwnFoldRow.holds Try.pinned (OpenSpec.ofChange fnOwnFoldSpec)

/-- ITS FALSE NEIGHBOUR: 'it returns false'. Refute it at one input. -/
def fnOwnFoldWrong : ChangeSpec := { name := "fnOwnFold", fn := fun _ => fun
  | [d] => { results := [.lit (.bool false)], args := [d] }
  | _ => none }
def FnOwnFoldWrongFalsely : Prop := fnOwnFoldRow.holds Try.pinned (OpenSpec.ofChange fnOwnFoldWrong)

/-- 'laws.FnOwnOnce': WHATEVER THE INPUT: true; the input reads as it did. -/
def fnOwnOnceSpec : ChangeSpec := { name := "fnOwnOnce", fn := fun _ => fun
  | [d] => { results := [.lit (.bool true)], args := [d] }
  | _ => none }
def fnOwnOnceRow : OpenClaim := { program := "ytchmjimfpamoeaa", sum := "8d1b5a2cc8f963cf88ba5fa592dc267bb246e85211f6c137cd3c77ae1281f586", func := "loop.example/stileway/laws.FnOwnOnce", spec := "fnOwnOnce", unfollowed := true, recurses := true, apart := false }
def FnOwnOnceSaid : Prop := fnOwnOnceRow.holds Try.pinned (OpenSpec.ofChange fnOwnOnceSpec)

/-- ITS FALSE NEIGHBOUR: 'it returns false'. Refute it at one input. -/
def fnOwnOnceWrong : ChangeSpec := { name := "fnOwnOnce", fn := fun _ => fun
  | [d] => { results := [.lit (.bool false)], args := [d] }
  | _ => none }
def FnOwnOnceWrongFalsely : Prop := fnOwnOnceRow.holds Try.pinned (OpenSpec.ofChange fnOwnOnceWrong)

/-- 'laws.FnOwnRoot': WHATEVER THE INPUT: true; the input reads as it did. -/
def fnOwnRootSpec : ChangeSpec := { name := "fnOwnRoot", fn := fun _ => fun
  | [d] => { results := [.lit (.bool true)], args := [d] }
  | _ => none }
def fnOwnRootRow : OpenClaim := { program := "ytchmjimfpamoeaa", sum := "8d1b5a2cc8f963cf88ba5fa592dc267bb246e85211f6c137cd3c77ae1281f586", func := "loop.example/stileway/laws.FnOwnRoot", spec := "fnOwnRoot", unfollowed := true, recurses := true, apart := false }
def FnOwnRootSaid : Prop := fnOwnRootRow.holds Try.pinned (OpenSpec.ofChange fnOwnRootSpec)

/-- ITS FALSE NEIGHBOUR: 'it returns false'. Refute it at one input. -/
def fnOwnRootWrong : ChangeSpec := { name := "fnOwnRoot", fn := fun _ => fun
  | [d] => { results := [.lit (.bool false)], args := [d] }
  | _ => none }
def FnOwnRootWrongFalsely : Prop := fnOwnRootRow.holds Try.pinned (OpenSpec.ofChange fnOwnRootWrong)

/-- 'laws.FnOwnCheck': WHATEVER THE INPUT: true; the input reads as it did. -/
def fnOwnCheckSpec : ChangeSpec := { name := "fnOwnCheck", fn := fun _ => fun
  | [d1, d2] => { results := [.lit (.bool true)], args := [d1, d2] }
  | _ => none }
def fnOwnCheckRow : OpenClaim := { program := "ytchmjimfpamoeaa", sum := "8d1b5a2cc8f963cf88ba5fa592dc267bb246e85211f6c137cd3c77ae1281f586", func := "loop.example/stileway/laws.FnOwnCheck", spec := "fnOwnCheck", recurses := true, apart := false }
def FnOwnCheckSaid : Prop := fnOwnCheckRow.holds Try.pinned (OpenSpec.ofChange fnOwnCheckSpec)

/-- ITS FALSE NEIGHBOUR: 'it returns false'. Refute it at one input. -/
def fnOwnCheckWrong : ChangeSpec := { name := "fnOwnCheck", fn := fun _ => fun
  | [d1, d2] => { results := [.lit (.bool false)], args := [d1, d2] }
  | _ => none }
def FnOwnCheckWrongFalsely : Prop := fnOwnCheckRow.holds Try.pinned (OpenSpec.ofChange fnOwnCheckWrong)

/-- 'laws.FnOwnLeaf': WHATEVER THE INPUT: true; the input reads as it did. -/
def fnOwnLeafSpec : ChangeSpec := { name := "fnOwnLeaf", fn := fun _ => fun
  | [d] => { results := [.lit (.bool true)], args := [d] }
  | _ => none }
def fnOwnLeafRow : OpenClaim := { program := "ytchmjimfpamoeaa", sum := "8d1b5a2cc8f963cf88ba5fa592dc267bb246e85211f6c137cd3c77ae1281f586", func := "loop.example/stileway/laws.FnOwnLeaf", spec := "fnOwnLeaf", apart := false }
def FnOwnLeafSaid : Prop := fnOwnLeafRow.holds Try.pinned (OpenSpec.ofChange fnOwnLeafSpec)

/-- ITS FALSE NEIGHBOUR: 'it returns false'. Refute it at one input. -/
def fnOwnLeafWrong : ChangeSpec := { name := "fnOwnLeaf", fn := fun _ => fun
  | [d] => { results := [.lit (.bool false)], args := [d] }
  | _ => none }
def FnOwnLeafWrongFalsely : Prop := fnOwnLeafRow.holds Try.pinned (OpenSpec.ofChange fnOwnLeafWrong)

/-- 'laws.FnOwnOf': WHATEVER THE INPUT: true; the input reads as it did. -/
def fnOwnOfSpec : ChangeSpec := { name := "fnOwnOf", fn := fun _ => fun
  | [d] => { results := [.lit (.bool true)], args := [d] }
  | _ => none }
def fnOwnOfRow : OpenClaim := { program := "ytchmjimfpamoeaa", sum := "8d1b5a2cc8f963cf88ba5fa592dc267bb246e85211f6c137cd3c77ae1281f586", func := "loop.example/stileway/laws.FnOwnOf", spec := "fnOwnOf", apart := false }
def FnOwnOfSaid : Prop := fnOwnOfRow.holds Try.pinned (OpenSpec.ofChange fnOwnOfSpec)

/-- ITS FALSE NEIGHBOUR: 'it returns false'. Refute it at one input. -/
def fnOwnOfWrong : ChangeSpec := { name := "fnOwnOf", fn := fun _ => fun
  | [d] => { results := [.lit (.bool false)], args := [d] }
  | _ => none }
def FnOwnOfWrongFalsely : Prop := fnOwnOfRow.holds Try.pinned (OpenSpec.ofChange fnOwnOfWrong)

/-- 'laws.FnExactEntCap': WHATEVER THE INPUT: true; the input reads as it did. -/
def fnExactEntCapSpec : ChangeSpec := { name := "fnExactEntCap", fn := fun _ => fun
  | [d] => { results := [.lit (.bool true)], args := [d] }
  | _ => none }
def fnExactEntCapRow : OpenClaim := { program := "ytchmjimfpamoeaa", sum := "8d1b5a2cc8f963cf88ba5fa592dc267bb246e85211f6c137cd3c77ae1281f586", func := "loop.example/stileway/laws.FnExactEntCap", spec := "fnExactEntCap", apart := false }
def FnExactEntCapSaid : Prop := fnExactEntCapRow.holds Try.pinned (OpenSpec.ofChange fnExactEntCapSpec)

/-- ITS FALSE NEIGHBOUR: 'it returns false'. Refute it at one input. -/
def fnExactEntCapWrong : ChangeSpec := { name := "fnExactEntCap", fn := fun _ => fun
  | [d] => { results := [.lit (.bool false)], args := [d] }
  | _ => none }
def FnExactEntCapWrongFalsely : Prop := fnExactEntCapRow.holds Try.pinned (OpenSpec.ofChange fnExactEntCapWrong)

/-- 'laws.FnExactEntOk': WHATEVER THE INPUT: true; the input reads as it did. -/
def fnExactEntOkSpec : ChangeSpec := { name := "fnExactEntOk", fn := fun _ => fun
  | [d] => { results := [.lit (.bool true)], args := [d] }
  | _ => none }
def fnExactEntOkRow : OpenClaim := { program := "ytchmjimfpamoeaa", sum := "8d1b5a2cc8f963cf88ba5fa592dc267bb246e85211f6c137cd3c77ae1281f586", func := "loop.example/stileway/laws.FnExactEntOk", spec := "fnExactEntOk", unfollowed := true, recurses := true, apart := false }
def FnExactEntOkSaid : Prop := fnExactEntOkRow.holds Try.pinned (OpenSpec.ofChange fnExactEntOkSpec)

/-- ITS FALSE NEIGHBOUR: 'it returns false'. Refute it at one input. -/
def fnExactEntOkWrong : ChangeSpec := { name := "fnExactEntOk", fn := fun _ => fun
  | [d] => { results := [.lit (.bool false)], args := [d] }
  | _ => none }
def FnExactEntOkWrongFalsely : Prop := fnExactEntOkRow.holds Try.pinned (OpenSpec.ofChange fnExactEntOkWrong)

/-- 'laws.FnExactEntLeaf': WHATEVER THE INPUT: true; the input reads as it did. -/
def fnExactEntLeafSpec : ChangeSpec := { name := "fnExactEntLeaf", fn := fun _ => fun
  | [d] => { results := [.lit (.bool true)], args := [d] }
  | _ => none }
def fnExactEntLeafRow : OpenClaim := { program := "ytchmjimfpamoeaa", sum := "8d1b5a2cc8f963cf88ba5fa592dc267bb246e85211f6c137cd3c77ae1281f586", func := "loop.example/stileway/laws.FnExactEntLeaf", spec := "fnExactEntLeaf", apart := false }
def FnExactEntLeafSaid : Prop := fnExactEntLeafRow.holds Try.pinned (OpenSpec.ofChange fnExactEntLeafSpec)

/-- ITS FALSE NEIGHBOUR: 'it returns false'. Refute it at one input. -/
def fnExactEntLeafWrong : ChangeSpec := { name := "fnExactEntLeaf", fn := fun _ => fun
  | [d] => { results := [.lit (.bool false)], args := [d] }
  | _ => none }
def FnExactEntLeafWrongFalsely : Prop := fnExactEntLeafRow.holds Try.pinned (OpenSpec.ofChange fnExactEntLeafWrong)

/-- 'laws.FnExactEntLeaves': WHATEVER THE INPUT: true; the input reads as it did. -/
def fnExactEntLeavesSpec : ChangeSpec := { name := "fnExactEntLeaves", fn := fun _ => fun
  | [d] => { results := [.lit (.bool true)], args := [d] }
  | _ => none }
def fnExactEntLeavesRow : OpenClaim := { program := "ytchmjimfpamoeaa", sum := "8d1b5a2cc8f963cf88ba5fa592dc267bb246e85211f6c137cd3c77ae1281f586", func := "loop.example/stileway/laws.FnExactEntLeaves", spec := "fnExactEntLeaves", apart := false }
def FnExactEntLeavesSaid : Prop := fnExactEntLeavesRow.holds Try.pinned (OpenSpec.ofChange fnExactEntLeavesSpec)

/-- ITS FALSE NEIGHBOUR: 'it returns false'. Refute it at one input. -/
def fnExactEntLeavesWrong : ChangeSpec := { name := "fnExactEntLeaves", fn := fun _ => fun
  | [d] => { results := [.lit (.bool false)], args := [d] }
  | _ => none }
def FnExactEntLeavesWrongFalsely : Prop := fnExactEntLeavesRow.holds Try.pinned (OpenSpec.ofChange fnExactEntLeavesWrong)

/-- 'laws.FnExactEntAbout': WHATEVER THE INPUT: true; the input reads as it did. -/
def fnExactEntAboutSpec : ChangeSpec := { name := "fnExactEntAbout", fn := fun _ => fun
  | [d1, d2] => { results := [.lit (.bool true)], args := [d1, d2] }
  | _ => none }
def fnExactEntAboutRow : OpenClaim := { program := "ytchmjimfpamoeaa", sum := "8d1b5a2cc8f963cf88ba5fa592dc267bb246e85211f6c137cd3c77ae1281f586", func := "loop.example/stileway/laws.FnExactEntAbout", spec := "fnExactEntAbout", apart := false }
def FnExactEntAboutSaid : Prop := fnExactEntAboutRow.holds Try.pinned (OpenSpec.ofChange fnExactEntAboutSpec)

/-- ITS FALSE NEIGHBOUR: 'it returns false'. Refute it at one input. -/
def fnExactEntAboutWrong : ChangeSpec := { name := "fnExactEntAbout", fn := fun _ => fun
  | [d1, d2] => { results := [.lit (.bool false)], args := [d1, d2] }
  | _ => none }
def FnExactEntAboutWrongFalsely : Prop := fnExactEntAboutRow.holds Try.pinned (OpenSpec.ofChange fnExactEntAboutWrong)

/-- 'laws.FnExactOwnOk': WHATEVER THE INPUT: true; the input reads as it did. -/
def fnExactOwnOkSpec : ChangeSpec := { name := "fnExactOwnOk", fn := fun _ => fun
  | [d] => { results := [.lit (.bool true)], args := [d] }
  | _ => none }
def fnExactOwnOkRow : OpenClaim := { program := "ytchmjimfpamoeaa", sum := "8d1b5a2cc8f963cf88ba5fa592dc267bb246e85211f6c137cd3c77ae1281f586", func := "loop.example/stileway/laws.FnExactOwnOk", spec := "fnExactOwnOk", apart := false }
def FnExactOwnOkSaid : Prop := fnExactOwnOkRow.holds Try.pinned (OpenSpec.ofChange fnExactOwnOkSpec)

/-- ITS FALSE NEIGHBOUR: 'it returns false'. Refute it at one input. -/
def fnExactOwnOkWrong : ChangeSpec := { name := "fnExactOwnOk", fn := fun _ => fun
  | [d] => { results := [.lit (.bool false)], args := [d] }
  | _ => none }
def FnExactOwnOkWrongFalsely : Prop := fnExactOwnOkRow.holds Try.pinned (OpenSpec.ofChange fnExactOwnOkWrong)

/-- 'laws.FnExactOwnFits': WHATEVER THE INPUT: true; the input reads as it did. -/
def fnExactOwnFitsSpec : ChangeSpec := { name := "fnExactOwnFits", fn := fun _ => fun
  | [d1, d2] => { results := [.lit (.bool true)], args := [d1, d2] }
  | _ => none }
def fnExactOwnFitsRow : OpenClaim := { program := "ytchmjimfpamoeaa", sum := "8d1b5a2cc8f963cf88ba5fa592dc267bb246e85211f6c137cd3c77ae1281f586", func := "loop.example/stileway/laws.FnExactOwnFits", spec := "fnExactOwnFits", unfollowed := true, recurses := true, apart := false }
def FnExactOwnFitsSaid : Prop := fnExactOwnFitsRow.holds Try.pinned (OpenSpec.ofChange fnExactOwnFitsSpec)

/-- ITS FALSE NEIGHBOUR: 'it returns false'. Refute it at one input. -/
def fnExactOwnFitsWrong : ChangeSpec := { name := "fnExactOwnFits", fn := fun _ => fun
  | [d1, d2] => { results := [.lit (.bool false)], args := [d1, d2] }
  | _ => none }
def FnExactOwnFitsWrongFalsely : Prop := fnExactOwnFitsRow.holds Try.pinned (OpenSpec.ofChange fnExactOwnFitsWrong)

/-- 'laws.FnExactOwnPut': WHATEVER THE INPUT: true; the input reads as it did. -/
def fnExactOwnPutSpec : ChangeSpec := { name := "fnExactOwnPut", fn := fun _ => fun
  | [d1, d2] => { results := [.lit (.bool true)], args := [d1, d2] }
  | _ => none }
def fnExactOwnPutRow : OpenClaim := { program := "ytchmjimfpamoeaa", sum := "8d1b5a2cc8f963cf88ba5fa592dc267bb246e85211f6c137cd3c77ae1281f586", func := "loop.example/stileway/laws.FnExactOwnPut", spec := "fnExactOwnPut", unfollowed := true, recurses := true, apart := false }
def FnExactOwnPutSaid : Prop := fnExactOwnPutRow.holds Try.pinned (OpenSpec.ofChange fnExactOwnPutSpec)

/-- ITS FALSE NEIGHBOUR: 'it returns false'. Refute it at one input. -/
def fnExactOwnPutWrong : ChangeSpec := { name := "fnExactOwnPut", fn := fun _ => fun
  | [d1, d2] => { results := [.lit (.bool false)], args := [d1, d2] }
  | _ => none }
def FnExactOwnPutWrongFalsely : Prop := fnExactOwnPutRow.holds Try.pinned (OpenSpec.ofChange fnExactOwnPutWrong)

/-- 'laws.FnExactOwnFold': WHATEVER THE INPUT: true; the input reads as it did. -/
def fnExactOwnFoldSpec : ChangeSpec := { name := "fnExactOwnFold", fn := fun _ => fun
  | [d] => { results := [.lit (.bool true)], args := [d] }
  | _ => none }
def fnExactOwnFoldRow : OpenClaim := { program := "ytchmjimfpamoeaa", sum := "8d1b5a2cc8f963cf88ba5fa592dc267bb246e85211f6c137cd3c77ae1281f586", func := "loop.example/stileway/laws.FnExactOwnFold", spec := "fnExactOwnFold", unfollowed := true, recurses := true, apart := false }
def FnExactOwnFoldSaid : Prop := fnExactOwnFoldRow.holds Try.pinned (OpenSpec.ofChange fnExactOwnFoldSpec)

/-- ITS FALSE NEIGHBOUR: 'it returns false'. Refute it at one input. -/
def fnExactOwnFoldWrong : ChangeSpec := { name := "fnExactOwnFold", fn := fun _ => fun
  | [d] => { results := [.lit (.bool false)], args := [d] }
  | _ => none }
def FnExactOwnFoldWrongFalsely : Prop := fnExactOwnFoldRow.holds Try.pinned (OpenSpec.ofChange fnExactOwnFoldWrong)

/-- 'laws.FnExactOwnLeaf': WHATEVER THE INPUT: true; the input reads as it did. -/
def fnExactOwnLeafSpec : ChangeSpec := { name := "fnExactOwnLeaf", fn := fun _ => fun
  | [d1, d2] => { results := [.lit (.bool true)], args := [d1, d2] }
  | _ => none }
def fnExactOwnLeafRow : OpenClaim := { program := "ytchmjimfpamoeaa", sum := "8d1b5a2cc8f963cf88ba5fa592dc267bb246e85211f6c137cd3c77ae1281f586", func := "loop.example/stileway/laws.FnExactOwnLeaf", spec := "fnExactOwnLeaf", apart := false }
def FnExactOwnLeafSaid : Prop := fnExactOwnLeafRow.holds Try.pinned (OpenSpec.ofChange fnExactOwnLeafSpec)

/-- ITS FALSE NEIGHBOUR: 'it returns false'. Refute it at one input. -/
def fnExactOwnLeafWrong : ChangeSpec := { name := "fnExactOwnLeaf", fn := fun _ => fun
  | [d1, d2] => { results := [.lit (.bool false)], args := [d1, d2] }
  | _ => none }
def FnExactOwnLeafWrongFalsely : Prop := fnExactOwnLeafRow.holds Try.pinned (OpenSpec.ofChange fnExactOwnLeafWrong)

/-- 'laws.FnExactOwnRoot': WHATEVER THE INPUT: true; the input reads as it did. -/
def fnExactOwnRootSpec : ChangeSpec := { name := "fnExactOwnRoot", fn := fun _ => fun
  | [d] => { results := [.lit (.bool true)], args := [d] }
  | _ => none }
def fnExactOwnRootRow : OpenClaim := { program := "ytchmjimfpamoeaa", sum := "8d1b5a2cc8f963cf88ba5fa592dc267bb246e85211f6c137cd3c77ae1281f586", func := "loop.example/stileway/laws.FnExactOwnRoot", spec := "fnExactOwnRoot", recurses := true, apart := false }
def FnExactOwnRootSaid : Prop := fnExactOwnRootRow.holds Try.pinned (OpenSpec.ofChange fnExactOwnRootSpec)

/-- ITS FALSE NEIGHBOUR: 'it returns false'. Refute it at one input. -/
def fnExactOwnRootWrong : ChangeSpec := { name := "fnExactOwnRoot", fn := fun _ => fun
  | [d] => { results := [.lit (.bool false)], args := [d] }
  | _ => none }
def FnExactOwnRootWrongFalsely : Prop := fnExactOwnRootRow.holds Try.pinned (OpenSpec.ofChange fnExactOwnRootWrong)

/-- 'laws.FnExactOwnProof': WHATEVER THE INPUT: true; the input reads as it did. -/
def fnExactOwnProofSpec : ChangeSpec := { name := "fnExactOwnProof", fn := fun _ => fun
  | [d1, d2] => { results := [.lit (.bool true)], args := [d1, d2] }
  | _ => none }
def fnExactOwnProofRow : OpenClaim := { program := "ytchmjimfpamoeaa", sum := "8d1b5a2cc8f963cf88ba5fa592dc267bb246e85211f6c137cd3c77ae1281f586", func := "loop.example/stileway/laws.FnExactOwnProof", spec := "fnExactOwnProof", unfollowed := true, recurses := true, apart := false }
def FnExactOwnProofSaid : Prop := fnExactOwnProofRow.holds Try.pinned (OpenSpec.ofChange fnExactOwnProofSpec)

/-- ITS FALSE NEIGHBOUR: 'it returns false'. Refute it at one input. -/
def fnExactOwnProofWrong : ChangeSpec := { name := "fnExactOwnProof", fn := fun _ => fun
  | [d1, d2] => { results := [.lit (.bool false)], args := [d1, d2] }
  | _ => none }
def FnExactOwnProofWrongFalsely : Prop := fnExactOwnProofRow.holds Try.pinned (OpenSpec.ofChange fnExactOwnProofWrong)

/-- 'laws.FnExactOwnCheck': WHATEVER THE INPUT: true; the input reads as it did. -/
def fnExactOwnCheckSpec : ChangeSpec := { name := "fnExactOwnCheck", fn := fun _ => fun
  | [d1, d2, d3, d4] => { results := [.lit (.bool true)], args := [d1, d2, d3, d4] }
  | _ => none }
def fnExactOwnCheckRow : OpenClaim := { program := "ytchmjimfpamoeaa", sum := "8d1b5a2cc8f963cf88ba5fa592dc267bb246e85211f6c137cd3c77ae1281f586", func := "loop.example/stileway/laws.FnExactOwnCheck", spec := "fnExactOwnCheck", recurses := true, apart := false }
def FnExactOwnCheckSaid : Prop := fnExactOwnCheckRow.holds Try.pinned (OpenSpec.ofChange fnExactOwnCheckSpec)

/-- ITS FALSE NEIGHBOUR: 'it returns false'. Refute it at one input. -/
def fnExactOwnCheckWrong : ChangeSpec := { name := "fnExactOwnCheck", fn := fun _ => fun
  | [d1, d2, d3, d4] => { results := [.lit (.bool false)], args := [d1, d2, d3, d4] }
  | _ => none }
def FnExactOwnCheckWrongFalsely : Prop := fnExactOwnCheckRow.holds Try.pinned (OpenSpec.ofChange fnExactOwnCheckWrong)

/-- 'laws.FnExactOwnCount': WHATEVER THE INPUT: true; the input reads as it did. -/
def fnExactOwnCountSpec : ChangeSpec := { name := "fnExactOwnCount", fn := fun _ => fun
  | [d1, d2] => { results := [.lit (.bool true)], args := [d1, d2] }
  | _ => none }
def fnExactOwnCountRow : OpenClaim := { program := "ytchmjimfpamoeaa", sum := "8d1b5a2cc8f963cf88ba5fa592dc267bb246e85211f6c137cd3c77ae1281f586", func := "loop.example/stileway/laws.FnExactOwnCount", spec := "fnExactOwnCount", apart := false }
def FnExactOwnCountSaid : Prop := fnExactOwnCountRow.holds Try.pinned (OpenSpec.ofChange fnExactOwnCountSpec)

/-- ITS FALSE NEIGHBOUR: 'it returns false'. Refute it at one input. -/
def fnExactOwnCountWrong : ChangeSpec := { name := "fnExactOwnCount", fn := fun _ => fun
  | [d1, d2] => { results := [.lit (.bool false)], args := [d1, d2] }
  | _ => none }
def FnExactOwnCountWrongFalsely : Prop := fnExactOwnCountRow.holds Try.pinned (OpenSpec.ofChange fnExactOwnCountWrong)

/-- 'laws.FnExactOwnOf': WHATEVER THE INPUT: true; the input reads as it did. -/
def fnExactOwnOfSpec : ChangeSpec := { name := "fnExactOwnOf", fn := fun _ => fun
  | [d1, d2] => { results := [.lit (.bool true)], args := [d1, d2] }
  | _ => none }
def fnExactOwnOfRow : OpenClaim := { program := "ytchmjimfpamoeaa", sum := "8d1b5a2cc8f963cf88ba5fa592dc267bb246e85211f6c137cd3c77ae1281f586", func := "loop.example/stileway/laws.FnExactOwnOf", spec := "fnExactOwnOf", apart := false }
def FnExactOwnOfSaid : Prop := fnExactOwnOfRow.holds Try.pinned (OpenSpec.ofChange fnExactOwnOfSpec)

/-- ITS FALSE NEIGHBOUR: 'it returns false'. Refute it at one input. -/
def fnExactOwnOfWrong : ChangeSpec := { name := "fnExactOwnOf", fn := fun _ => fun
  | [d1, d2] => { results := [.lit (.bool false)], args := [d1, d2] }
  | _ => none }
def FnExactOwnOfWrongFalsely : Prop := fnExactOwnOfRow.holds Try.pinned (OpenSpec.ofChange fnExactOwnOfWrong)

/- THE SECOND FORM. 'bulk': how many values and letters a reading holds, each counted each time it is reached (what is shared counts as often as it is met; a slice's spare places count too). A statement '..UptoSaid' is the law's where the arguments, and the package variables that the reading takes, are together of bulk at most 1048576: NARROWER than '..Said'. Prove '..Said' where nothing that the law and all that it calls make is longer than what came in: it says more and counts as full. Else prove '..UptoSaid'. A law counts once. -/
mutual
def uptoBulk {H : Type} : DataW H → Nat
  | .lit (.string bytes) => bytes.length + 1
  | .lit _ => 1
  | .nil => 1
  | .ptr d => uptoBulk d + 1
  | .slice elems spare => uptoBulkAll elems + uptoBulkAll spare + 1
  | .agg parts => uptoBulkAll parts + 1
  | .iface _ d => uptoBulk d + 1
  | .map entries => uptoBulkEntries entries + 1
  | .held _ => 1
def uptoBulkAll {H : Type} : List (DataW H) → Nat
  | [] => 0
  | d :: r => uptoBulk d + uptoBulkAll r
def uptoBulkEntries {H : Type} : List (Lit × DataW H) → Nat
  | [] => 0
  | x :: r => uptoBulkEntry x + uptoBulkEntries r
def uptoBulkEntry {H : Type} : Lit × DataW H → Nat
  | (.string bytes, d) => bytes.length + uptoBulk d + 1
  | (_, d) => uptoBulk d + 1
 end
def uptoSmall : (H : Type) → List (DataW H) → Bool := fun _ ds => decide (uptoBulkAll ds ≤ 1048576)
def OpenSpec.upto (s : _root_.Go.ChangeSpec) : _root_.Go.OpenSpec := { _root_.Go.OpenSpec.ofChange s with cond := some uptoSmall }

/-- 'laws.FnEntCap', WHERE WHAT IT READS IS OF BULK AT MOST 1048576: true; the input reads as it did. -/
def fnEntCapUptoRow : OpenClaim := { program := "ytchmjimfpamoeaa", sum := "8d1b5a2cc8f963cf88ba5fa592dc267bb246e85211f6c137cd3c77ae1281f586", func := "loop.example/stileway/laws.FnEntCap", spec := "fnEntCap", apart := false, narrowed := true }
def FnEntCapUptoSaid : Prop := fnEntCapUptoRow.holds Try.pinned (OpenSpec.upto fnEntCapSpec)

/-- 'laws.FnEntLeaf', WHERE WHAT IT READS IS OF BULK AT MOST 1048576: true; the input reads as it did. -/
def fnEntLeafUptoRow : OpenClaim := { program := "ytchmjimfpamoeaa", sum := "8d1b5a2cc8f963cf88ba5fa592dc267bb246e85211f6c137cd3c77ae1281f586", func := "loop.example/stileway/laws.FnEntLeaf", spec := "fnEntLeaf", apart := false, narrowed := true }
def FnEntLeafUptoSaid : Prop := fnEntLeafUptoRow.holds Try.pinned (OpenSpec.upto fnEntLeafSpec)

/-- 'laws.FnEntAbout', WHERE WHAT IT READS IS OF BULK AT MOST 1048576: true; the input reads as it did. -/
def fnEntAboutUptoRow : OpenClaim := { program := "ytchmjimfpamoeaa", sum := "8d1b5a2cc8f963cf88ba5fa592dc267bb246e85211f6c137cd3c77ae1281f586", func := "loop.example/stileway/laws.FnEntAbout", spec := "fnEntAbout", apart := false, narrowed := true }
def FnEntAboutUptoSaid : Prop := fnEntAboutUptoRow.holds Try.pinned (OpenSpec.upto fnEntAboutSpec)

/-- 'laws.FnOwnFits', WHERE WHAT IT READS IS OF BULK AT MOST 1048576: true; the input reads as it did. -/
def fnOwnFitsUptoRow : OpenClaim := { program := "ytchmjimfpamoeaa", sum := "8d1b5a2cc8f963cf88ba5fa592dc267bb246e85211f6c137cd3c77ae1281f586", func := "loop.example/stileway/laws.FnOwnFits", spec := "fnOwnFits", unfollowed := true, recurses := true, apart := false, narrowed := true }
def FnOwnFitsUptoSaid : Prop := fnOwnFitsUptoRow.holds Try.pinned (OpenSpec.upto fnOwnFitsSpec)

/-- 'laws.FnOwnPut', WHERE WHAT IT READS IS OF BULK AT MOST 1048576: true; the input reads as it did. -/
def fnOwnPutUptoRow : OpenClaim := { program := "ytchmjimfpamoeaa", sum := "8d1b5a2cc8f963cf88ba5fa592dc267bb246e85211f6c137cd3c77ae1281f586", func := "loop.example/stileway/laws.FnOwnPut", spec := "fnOwnPut", unfollowed := true, recurses := true, apart := false, narrowed := true }
def FnOwnPutUptoSaid : Prop := fnOwnPutUptoRow.holds Try.pinned (OpenSpec.upto fnOwnPutSpec)

/-- 'laws.FnOwnFold', WHERE WHAT IT READS IS OF BULK AT MOST 1048576: true; the input reads as it did. -/
def fnOwnFoldUptoRow : OpenClaim := { program := "ytchmjimfpamoeaa", sum := "8d1b5a2cc8f963cf88ba5fa592dc267bb246e85211f6c137cd3c77ae1281f586", func := "loop.example/stileway/laws.FnOwnFold", spec := "fnOwnFold", unfollowed := true, recurses := true, apart := false, narrowed := true }
def FnOwnFoldUptoSaid : Prop := fnOwnFoldUptoRow.holds Try.pinned (OpenSpec.upto fnOwnFoldSpec)

/-- 'laws.FnOwnOnce', WHERE WHAT IT READS IS OF BULK AT MOST 1048576: true; the input reads as it did. -/
def fnOwnOnceUptoRow : OpenClaim := { program := "ytchmjimfpamoeaa", sum := "8d1b5a2cc8f963cf88ba5fa592dc267bb246e85211f6c137cd3c77ae1281f586", func := "loop.example/stileway/laws.FnOwnOnce", spec := "fnOwnOnce", unfollowed := true, recurses := true, apart := false, narrowed := true }
def FnOwnOnceUptoSaid : Prop := fnOwnOnceUptoRow.holds Try.pinned (OpenSpec.upto fnOwnOnceSpec)

/-- 'laws.FnOwnRoot', WHERE WHAT IT READS IS OF BULK AT MOST 1048576: true; the input reads as it did. -/
def fnOwnRootUptoRow : OpenClaim := { program := "ytchmjimfpamoeaa", sum := "8d1b5a2cc8f963cf88ba5fa592dc267bb246e85211f6c137cd3c77ae1281f586", func := "loop.example/stileway/laws.FnOwnRoot", spec := "fnOwnRoot", unfollowed := true, recurses := true, apart := false, narrowed := true }
def FnOwnRootUptoSaid : Prop := fnOwnRootUptoRow.holds Try.pinned (OpenSpec.upto fnOwnRootSpec)

/-- 'laws.FnOwnCheck', WHERE WHAT IT READS IS OF BULK AT MOST 1048576: true; the input reads as it did. -/
def fnOwnCheckUptoRow : OpenClaim := { program := "ytchmjimfpamoeaa", sum := "8d1b5a2cc8f963cf88ba5fa592dc267bb246e85211f6c137cd3c77ae1281f586", func := "loop.example/stileway/laws.FnOwnCheck", spec := "fnOwnCheck", recurses := true, apart := false, narrowed := true }
def FnOwnCheckUptoSaid : Prop := fnOwnCheckUptoRow.holds Try.pinned (OpenSpec.upto fnOwnCheckSpec)

/-- 'laws.FnOwnLeaf', WHERE WHAT IT READS IS OF BULK AT MOST 1048576: true; the input reads as it did. -/
def fnOwnLeafUptoRow : OpenClaim := { program := "ytchmjimfpamoeaa", sum := "8d1b5a2cc8f963cf88ba5fa592dc267bb246e85211f6c137cd3c77ae1281f586", func := "loop.example/stileway/laws.FnOwnLeaf", spec := "fnOwnLeaf", apart := false, narrowed := true }
def FnOwnLeafUptoSaid : Prop := fnOwnLeafUptoRow.holds Try.pinned (OpenSpec.upto fnOwnLeafSpec)

/-- 'laws.FnOwnOf', WHERE WHAT IT READS IS OF BULK AT MOST 1048576: true; the input reads as it did. -/
def fnOwnOfUptoRow : OpenClaim := { program := "ytchmjimfpamoeaa", sum := "8d1b5a2cc8f963cf88ba5fa592dc267bb246e85211f6c137cd3c77ae1281f586", func := "loop.example/stileway/laws.FnOwnOf", spec := "fnOwnOf", apart := false, narrowed := true }
def FnOwnOfUptoSaid : Prop := fnOwnOfUptoRow.holds Try.pinned (OpenSpec.upto fnOwnOfSpec)

/-- 'laws.FnExactEntCap', WHERE WHAT IT READS IS OF BULK AT MOST 1048576: true; the input reads as it did. -/
def fnExactEntCapUptoRow : OpenClaim := { program := "ytchmjimfpamoeaa", sum := "8d1b5a2cc8f963cf88ba5fa592dc267bb246e85211f6c137cd3c77ae1281f586", func := "loop.example/stileway/laws.FnExactEntCap", spec := "fnExactEntCap", apart := false, narrowed := true }
def FnExactEntCapUptoSaid : Prop := fnExactEntCapUptoRow.holds Try.pinned (OpenSpec.upto fnExactEntCapSpec)

/-- 'laws.FnExactEntOk', WHERE WHAT IT READS IS OF BULK AT MOST 1048576: true; the input reads as it did. -/
def fnExactEntOkUptoRow : OpenClaim := { program := "ytchmjimfpamoeaa", sum := "8d1b5a2cc8f963cf88ba5fa592dc267bb246e85211f6c137cd3c77ae1281f586", func := "loop.example/stileway/laws.FnExactEntOk", spec := "fnExactEntOk", unfollowed := true, recurses := true, apart := false, narrowed := true }
def FnExactEntOkUptoSaid : Prop := fnExactEntOkUptoRow.holds Try.pinned (OpenSpec.upto fnExactEntOkSpec)

/-- 'laws.FnExactEntLeaf', WHERE WHAT IT READS IS OF BULK AT MOST 1048576: true; the input reads as it did. -/
def fnExactEntLeafUptoRow : OpenClaim := { program := "ytchmjimfpamoeaa", sum := "8d1b5a2cc8f963cf88ba5fa592dc267bb246e85211f6c137cd3c77ae1281f586", func := "loop.example/stileway/laws.FnExactEntLeaf", spec := "fnExactEntLeaf", apart := false, narrowed := true }
def FnExactEntLeafUptoSaid : Prop := fnExactEntLeafUptoRow.holds Try.pinned (OpenSpec.upto fnExactEntLeafSpec)

/-- 'laws.FnExactEntLeaves', WHERE WHAT IT READS IS OF BULK AT MOST 1048576: true; the input reads as it did. -/
def fnExactEntLeavesUptoRow : OpenClaim := { program := "ytchmjimfpamoeaa", sum := "8d1b5a2cc8f963cf88ba5fa592dc267bb246e85211f6c137cd3c77ae1281f586", func := "loop.example/stileway/laws.FnExactEntLeaves", spec := "fnExactEntLeaves", apart := false, narrowed := true }
def FnExactEntLeavesUptoSaid : Prop := fnExactEntLeavesUptoRow.holds Try.pinned (OpenSpec.upto fnExactEntLeavesSpec)

/-- 'laws.FnExactEntAbout', WHERE WHAT IT READS IS OF BULK AT MOST 1048576: true; the input reads as it did. -/
def fnExactEntAboutUptoRow : OpenClaim := { program := "ytchmjimfpamoeaa", sum := "8d1b5a2cc8f963cf88ba5fa592dc267bb246e85211f6c137cd3c77ae1281f586", func := "loop.example/stileway/laws.FnExactEntAbout", spec := "fnExactEntAbout", apart := false, narrowed := true }
def FnExactEntAboutUptoSaid : Prop := fnExactEntAboutUptoRow.holds Try.pinned (OpenSpec.upto fnExactEntAboutSpec)

/-- 'laws.FnExactOwnOk', WHERE WHAT IT READS IS OF BULK AT MOST 1048576: true; the input reads as it did. -/
def fnExactOwnOkUptoRow : OpenClaim := { program := "ytchmjimfpamoeaa", sum := "8d1b5a2cc8f963cf88ba5fa592dc267bb246e85211f6c137cd3c77ae1281f586", func := "loop.example/stileway/laws.FnExactOwnOk", spec := "fnExactOwnOk", apart := false, narrowed := true }
def FnExactOwnOkUptoSaid : Prop := fnExactOwnOkUptoRow.holds Try.pinned (OpenSpec.upto fnExactOwnOkSpec)

/-- 'laws.FnExactOwnFits', WHERE WHAT IT READS IS OF BULK AT MOST 1048576: true; the input reads as it did. -/
def fnExactOwnFitsUptoRow : OpenClaim := { program := "ytchmjimfpamoeaa", sum := "8d1b5a2cc8f963cf88ba5fa592dc267bb246e85211f6c137cd3c77ae1281f586", func := "loop.example/stileway/laws.FnExactOwnFits", spec := "fnExactOwnFits", unfollowed := true, recurses := true, apart := false, narrowed := true }
def FnExactOwnFitsUptoSaid : Prop := fnExactOwnFitsUptoRow.holds Try.pinned (OpenSpec.upto fnExactOwnFitsSpec)

/-- 'laws.FnExactOwnPut', WHERE WHAT IT READS IS OF BULK AT MOST 1048576: true; the input reads as it did. -/
def fnExactOwnPutUptoRow : OpenClaim := { program := "ytchmjimfpamoeaa", sum := "8d1b5a2cc8f963cf88ba5fa592dc267bb246e85211f6c137cd3c77ae1281f586", func := "loop.example/stileway/laws.FnExactOwnPut", spec := "fnExactOwnPut", unfollowed := true, recurses := true, apart := false, narrowed := true }
def FnExactOwnPutUptoSaid : Prop := fnExactOwnPutUptoRow.holds Try.pinned (OpenSpec.upto fnExactOwnPutSpec)

/-- 'laws.FnExactOwnFold', WHERE WHAT IT READS IS OF BULK AT MOST 1048576: true; the input reads as it did. -/
def fnExactOwnFoldUptoRow : OpenClaim := { program := "ytchmjimfpamoeaa", sum := "8d1b5a2cc8f963cf88ba5fa592dc267bb246e85211f6c137cd3c77ae1281f586", func := "loop.example/stileway/laws.FnExactOwnFold", spec := "fnExactOwnFold", unfollowed := true, recurses := true, apart := false, narrowed := true }
def FnExactOwnFoldUptoSaid : Prop := fnExactOwnFoldUptoRow.holds Try.pinned (OpenSpec.upto fnExactOwnFoldSpec)

/-- 'laws.FnExactOwnLeaf', WHERE WHAT IT READS IS OF BULK AT MOST 1048576: true; the input reads as it did. -/
def fnExactOwnLeafUptoRow : OpenClaim := { program := "ytchmjimfpamoeaa", sum := "8d1b5a2cc8f963cf88ba5fa592dc267bb246e85211f6c137cd3c77ae1281f586", func := "loop.example/stileway/laws.FnExactOwnLeaf", spec := "fnExactOwnLeaf", apart := false, narrowed := true }
def FnExactOwnLeafUptoSaid : Prop := fnExactOwnLeafUptoRow.holds Try.pinned (OpenSpec.upto fnExactOwnLeafSpec)

/-- 'laws.FnExactOwnRoot', WHERE WHAT IT READS IS OF BULK AT MOST 1048576: true; the input reads as it did. -/
def fnExactOwnRootUptoRow : OpenClaim := { program := "ytchmjimfpamoeaa", sum := "8d1b5a2cc8f963cf88ba5fa592dc267bb246e85211f6c137cd3c77ae1281f586", func := "loop.example/stileway/laws.FnExactOwnRoot", spec := "fnExactOwnRoot", recurses := true, apart := false, narrowed := true }
def FnExactOwnRootUptoSaid : Prop := fnExactOwnRootUptoRow.holds Try.pinned (OpenSpec.upto fnExactOwnRootSpec)

/-- 'laws.FnExactOwnProof', WHERE WHAT IT READS IS OF BULK AT MOST 1048576: true; the input reads as it did. -/
def fnExactOwnProofUptoRow : OpenClaim := { program := "ytchmjimfpamoeaa", sum := "8d1b5a2cc8f963cf88ba5fa592dc267bb246e85211f6c137cd3c77ae1281f586", func := "loop.example/stileway/laws.FnExactOwnProof", spec := "fnExactOwnProof", unfollowed := true, recurses := true, apart := false, narrowed := true }
def FnExactOwnProofUptoSaid : Prop := fnExactOwnProofUptoRow.holds Try.pinned (OpenSpec.upto fnExactOwnProofSpec)

/-- 'laws.FnExactOwnCheck', WHERE WHAT IT READS IS OF BULK AT MOST 1048576: true; the input reads as it did. -/
def fnExactOwnCheckUptoRow : OpenClaim := { program := "ytchmjimfpamoeaa", sum := "8d1b5a2cc8f963cf88ba5fa592dc267bb246e85211f6c137cd3c77ae1281f586", func := "loop.example/stileway/laws.FnExactOwnCheck", spec := "fnExactOwnCheck", recurses := true, apart := false, narrowed := true }
def FnExactOwnCheckUptoSaid : Prop := fnExactOwnCheckUptoRow.holds Try.pinned (OpenSpec.upto fnExactOwnCheckSpec)

/-- 'laws.FnExactOwnCount', WHERE WHAT IT READS IS OF BULK AT MOST 1048576: true; the input reads as it did. -/
def fnExactOwnCountUptoRow : OpenClaim := { program := "ytchmjimfpamoeaa", sum := "8d1b5a2cc8f963cf88ba5fa592dc267bb246e85211f6c137cd3c77ae1281f586", func := "loop.example/stileway/laws.FnExactOwnCount", spec := "fnExactOwnCount", apart := false, narrowed := true }
def FnExactOwnCountUptoSaid : Prop := fnExactOwnCountUptoRow.holds Try.pinned (OpenSpec.upto fnExactOwnCountSpec)

/-- 'laws.FnExactOwnOf', WHERE WHAT IT READS IS OF BULK AT MOST 1048576: true; the input reads as it did. -/
def fnExactOwnOfUptoRow : OpenClaim := { program := "ytchmjimfpamoeaa", sum := "8d1b5a2cc8f963cf88ba5fa592dc267bb246e85211f6c137cd3c77ae1281f586", func := "loop.example/stileway/laws.FnExactOwnOf", spec := "fnExactOwnOf", apart := false, narrowed := true }
def FnExactOwnOfUptoSaid : Prop := fnExactOwnOfUptoRow.holds Try.pinned (OpenSpec.upto fnExactOwnOfSpec)

end Rows
end Go.Proofs.Ytchmjimfpamoeaa
