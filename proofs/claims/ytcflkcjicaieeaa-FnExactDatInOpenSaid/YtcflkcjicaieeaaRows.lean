/-
  No cell of these rows narrows 'for every input' (looked for: loops, veiled, ifaces, maps, wideKeys, modest, calm, conditions, laid).
  DERIVED. THE GIVEN ROWS OF THIS SEAT. 12 by the template 'for every input the law returns true; each argument reads behind the call as it read before'; 0 by the template 'total and deterministic' (their statements: YtcflkcjicaieeaaTotals.lean).
  GIVEN WITH THE SEED: the statements are not yours to turn. If you find one false, say at which input.
  Laid BY PROGRAM, IN A SANDBOX (cutbox-rows.mjs): the forced cells as the released guide's own fill.sh prints them over the translation 6d31b423b63d0714… (all of the seat's roots in one cut). By AI agents, Wed Nov 11 2026. No macro, syntax, notation, axiom, sorry.
-/
import Derived.Test.YtcflkcjicaieeaaChecked
import GoSem.Claim
import GoSem.ClaimJoined
import GoSem.ClaimMapViews
import Derived.JoinedTies
import Derived.KernelRfl
namespace Go.Proofs.Ytcflkcjicaieeaa
/- THE CELL 'sum', in the pinned program and in every row, IS THE sha256 OF THE DUMP (.gsa) THAT YtcflkcjicaieeaaProg.lean LOADS. Nothing in Lean hashes anything: it is a label: what it is worth is what the hold of that sum in a sandbox is worth. -/
noncomputable def Try.pinned : Pinned := { name := "ytcflkcjicaieeaa", sum := "6d31b423b63d0714c9a47980d9973a4999c51b1a16804b41af590d32662f4194", checked := Try.checked }
namespace Rows
def none {H : Type} : Left H := { results := [], args := [] }

/-- 'laws.FnExactPthPick': WHATEVER THE INPUT: true; the input reads as it did. -/
def fnExactPthPickSpec : ChangeSpec := { name := "fnExactPthPick", fn := fun _ => fun
  | [d1, d2] => { results := [.lit (.bool true)], args := [d1, d2] }
  | _ => none }
def fnExactPthPickRow : OpenClaim := { program := "ytcflkcjicaieeaa", sum := "6d31b423b63d0714c9a47980d9973a4999c51b1a16804b41af590d32662f4194", func := "loop.example/trunk/laws.FnExactPthPick", spec := "fnExactPthPick", unfollowed := true, recurses := true, apart := false }
def FnExactPthPickSaid : Prop := fnExactPthPickRow.holds Try.pinned (OpenSpec.ofChange fnExactPthPickSpec)

/-- ITS FALSE NEIGHBOUR: 'it returns false'. Refute it at one input. -/
def fnExactPthPickWrong : ChangeSpec := { name := "fnExactPthPick", fn := fun _ => fun
  | [d1, d2] => { results := [.lit (.bool false)], args := [d1, d2] }
  | _ => none }
def FnExactPthPickWrongFalsely : Prop := fnExactPthPickRow.holds Try.pinned (OpenSpec.ofChange fnExactPthPickWrong)

/-- 'laws.FnExactDatInOk': WHATEVER THE INPUT: true; the input reads as it did. -/
def fnExactDatInOkSpec : ChangeSpec := { name := "fnExactDatInOk", fn := fun _ => fun
  | [d] => { results := [.lit (.bool true)], args := [d] }
  | _ => none }
def fnExactDatInOkRow : OpenClaim := { program := "ytcflkcjicaieeaa", sum := "6d31b423b63d0714c9a47980d9973a4999c51b1a16804b41af590d32662f4194", func := "loop.example/trunk/laws.FnExactDatInOk", spec := "fnExactDatInOk", unfollowed := true, recurses := true, apart := false }
def FnExactDatInOkSaid : Prop := fnExactDatInOkRow.holds Try.pinned (OpenSpec.ofChange fnExactDatInOkSpec)

/-- ITS FALSE NEIGHBOUR: 'it returns false'. Refute it at one input. -/
def fnExactDatInOkWrong : ChangeSpec := { name := "fnExactDatInOk", fn := fun _ => fun
  | [d] => { results := [.lit (.bool false)], args := [d] }
  | _ => none }
def FnExactDatInOkWrongFalsely : Prop := fnExactDatInOkRow.holds Try.pinned (OpenSpec.ofChange fnExactDatInOkWrong)

/-- 'laws.FnExactDatInOpen': WHATEVER THE INPUT: true; the input reads as it did. -/
def fnExactDatInOpenSpec : ChangeSpec := { name := "fnExactDatInOpen", fn := fun _ => fun
  | [d1, d2] => { results := [.lit (.bool true)], args := [d1, d2] }
  | _ => none }
def fnExactDatInOpenRow : OpenClaim := { program := "ytcflkcjicaieeaa", sum := "6d31b423b63d0714c9a47980d9973a4999c51b1a16804b41af590d32662f4194", func := "loop.example/trunk/laws.FnExactDatInOpen", spec := "fnExactDatInOpen", apart := false }
def FnExactDatInOpenSaid : Prop := fnExactDatInOpenRow.holds Try.pinned (OpenSpec.ofChange fnExactDatInOpenSpec)

/-- ITS FALSE NEIGHBOUR: 'it returns false'. Refute it at one input. -/
def fnExactDatInOpenWrong : ChangeSpec := { name := "fnExactDatInOpen", fn := fun _ => fun
  | [d1, d2] => { results := [.lit (.bool false)], args := [d1, d2] }
  | _ => none }
def FnExactDatInOpenWrongFalsely : Prop := fnExactDatInOpenRow.holds Try.pinned (OpenSpec.ofChange fnExactDatInOpenWrong)

/-- 'laws.FnKey': WHATEVER THE INPUT: true; the input reads as it did. -/
def fnKeySpec : ChangeSpec := { name := "fnKey", fn := fun _ => fun
  | [d1, d2] => { results := [.lit (.bool true)], args := [d1, d2] }
  | _ => none }
def fnKeyRow : OpenClaim := { program := "ytcflkcjicaieeaa", sum := "6d31b423b63d0714c9a47980d9973a4999c51b1a16804b41af590d32662f4194", func := "loop.example/trunk/laws.FnKey", spec := "fnKey", unfollowed := true, recurses := true, apart := false }
def FnKeySaid : Prop := fnKeyRow.holds Try.pinned (OpenSpec.ofChange fnKeySpec)

/-- ITS FALSE NEIGHBOUR: 'it returns false'. Refute it at one input. -/
def fnKeyWrong : ChangeSpec := { name := "fnKey", fn := fun _ => fun
  | [d1, d2] => { results := [.lit (.bool false)], args := [d1, d2] }
  | _ => none }
def FnKeyWrongFalsely : Prop := fnKeyRow.holds Try.pinned (OpenSpec.ofChange fnKeyWrong)

/-- 'laws.FnExactAspOk': WHATEVER THE INPUT: true; the input reads as it did. -/
def fnExactAspOkSpec : ChangeSpec := { name := "fnExactAspOk", fn := fun _ => fun
  | [d] => { results := [.lit (.bool true)], args := [d] }
  | _ => none }
def fnExactAspOkRow : OpenClaim := { program := "ytcflkcjicaieeaa", sum := "6d31b423b63d0714c9a47980d9973a4999c51b1a16804b41af590d32662f4194", func := "loop.example/trunk/laws.FnExactAspOk", spec := "fnExactAspOk", apart := false }
def FnExactAspOkSaid : Prop := fnExactAspOkRow.holds Try.pinned (OpenSpec.ofChange fnExactAspOkSpec)

/-- ITS FALSE NEIGHBOUR: 'it returns false'. Refute it at one input. -/
def fnExactAspOkWrong : ChangeSpec := { name := "fnExactAspOk", fn := fun _ => fun
  | [d] => { results := [.lit (.bool false)], args := [d] }
  | _ => none }
def FnExactAspOkWrongFalsely : Prop := fnExactAspOkRow.holds Try.pinned (OpenSpec.ofChange fnExactAspOkWrong)

/-- 'laws.FnExactMsgOk': WHATEVER THE INPUT: true; the input reads as it did. -/
def fnExactMsgOkSpec : ChangeSpec := { name := "fnExactMsgOk", fn := fun _ => fun
  | [d] => { results := [.lit (.bool true)], args := [d] }
  | _ => none }
def fnExactMsgOkRow : OpenClaim := { program := "ytcflkcjicaieeaa", sum := "6d31b423b63d0714c9a47980d9973a4999c51b1a16804b41af590d32662f4194", func := "loop.example/trunk/laws.FnExactMsgOk", spec := "fnExactMsgOk", unfollowed := true, recurses := true, apart := false }
def FnExactMsgOkSaid : Prop := fnExactMsgOkRow.holds Try.pinned (OpenSpec.ofChange fnExactMsgOkSpec)

/-- ITS FALSE NEIGHBOUR: 'it returns false'. Refute it at one input. -/
def fnExactMsgOkWrong : ChangeSpec := { name := "fnExactMsgOk", fn := fun _ => fun
  | [d] => { results := [.lit (.bool false)], args := [d] }
  | _ => none }
def FnExactMsgOkWrongFalsely : Prop := fnExactMsgOkRow.holds Try.pinned (OpenSpec.ofChange fnExactMsgOkWrong)

/-- 'laws.FnExactDatEnd': WHATEVER THE INPUT: true; the input reads as it did. -/
def fnExactDatEndSpec : ChangeSpec := { name := "fnExactDatEnd", fn := fun _ => fun
  | [d] => { results := [.lit (.bool true)], args := [d] }
  | _ => none }
def fnExactDatEndRow : OpenClaim := { program := "ytcflkcjicaieeaa", sum := "6d31b423b63d0714c9a47980d9973a4999c51b1a16804b41af590d32662f4194", func := "loop.example/trunk/laws.FnExactDatEnd", spec := "fnExactDatEnd", unfollowed := true, recurses := true, apart := false }
def FnExactDatEndSaid : Prop := fnExactDatEndRow.holds Try.pinned (OpenSpec.ofChange fnExactDatEndSpec)

/-- ITS FALSE NEIGHBOUR: 'it returns false'. Refute it at one input. -/
def fnExactDatEndWrong : ChangeSpec := { name := "fnExactDatEnd", fn := fun _ => fun
  | [d] => { results := [.lit (.bool false)], args := [d] }
  | _ => none }
def FnExactDatEndWrongFalsely : Prop := fnExactDatEndRow.holds Try.pinned (OpenSpec.ofChange fnExactDatEndWrong)

/-- 'laws.FnExactDatPush': WHATEVER THE INPUT: true; the input reads as it did. -/
def fnExactDatPushSpec : ChangeSpec := { name := "fnExactDatPush", fn := fun _ => fun
  | [d1, d2] => { results := [.lit (.bool true)], args := [d1, d2] }
  | _ => none }
def fnExactDatPushRow : OpenClaim := { program := "ytcflkcjicaieeaa", sum := "6d31b423b63d0714c9a47980d9973a4999c51b1a16804b41af590d32662f4194", func := "loop.example/trunk/laws.FnExactDatPush", spec := "fnExactDatPush", unfollowed := true, recurses := true, apart := false }
def FnExactDatPushSaid : Prop := fnExactDatPushRow.holds Try.pinned (OpenSpec.ofChange fnExactDatPushSpec)

/-- ITS FALSE NEIGHBOUR: 'it returns false'. Refute it at one input. -/
def fnExactDatPushWrong : ChangeSpec := { name := "fnExactDatPush", fn := fun _ => fun
  | [d1, d2] => { results := [.lit (.bool false)], args := [d1, d2] }
  | _ => none }
def FnExactDatPushWrongFalsely : Prop := fnExactDatPushRow.holds Try.pinned (OpenSpec.ofChange fnExactDatPushWrong)

/-- 'laws.FnExactDatPipeOpen': WHATEVER THE INPUT: true; the input reads as it did. -/
def fnExactDatPipeOpenSpec : ChangeSpec := { name := "fnExactDatPipeOpen", fn := fun _ => fun
  | [d1, d2] => { results := [.lit (.bool true)], args := [d1, d2] }
  | _ => none }
def fnExactDatPipeOpenRow : OpenClaim := { program := "ytcflkcjicaieeaa", sum := "6d31b423b63d0714c9a47980d9973a4999c51b1a16804b41af590d32662f4194", func := "loop.example/trunk/laws.FnExactDatPipeOpen", spec := "fnExactDatPipeOpen", apart := false }
def FnExactDatPipeOpenSaid : Prop := fnExactDatPipeOpenRow.holds Try.pinned (OpenSpec.ofChange fnExactDatPipeOpenSpec)

/-- ITS FALSE NEIGHBOUR: 'it returns false'. Refute it at one input. -/
def fnExactDatPipeOpenWrong : ChangeSpec := { name := "fnExactDatPipeOpen", fn := fun _ => fun
  | [d1, d2] => { results := [.lit (.bool false)], args := [d1, d2] }
  | _ => none }
def FnExactDatPipeOpenWrongFalsely : Prop := fnExactDatPipeOpenRow.holds Try.pinned (OpenSpec.ofChange fnExactDatPipeOpenWrong)

/-- 'laws.FnExactAscMac': WHATEVER THE INPUT: true; the input reads as it did. -/
def fnExactAscMacSpec : ChangeSpec := { name := "fnExactAscMac", fn := fun _ => fun
  | [d1, d2] => { results := [.lit (.bool true)], args := [d1, d2] }
  | _ => none }
def fnExactAscMacRow : OpenClaim := { program := "ytcflkcjicaieeaa", sum := "6d31b423b63d0714c9a47980d9973a4999c51b1a16804b41af590d32662f4194", func := "loop.example/trunk/laws.FnExactAscMac", spec := "fnExactAscMac", apart := false }
def FnExactAscMacSaid : Prop := fnExactAscMacRow.holds Try.pinned (OpenSpec.ofChange fnExactAscMacSpec)

/-- ITS FALSE NEIGHBOUR: 'it returns false'. Refute it at one input. -/
def fnExactAscMacWrong : ChangeSpec := { name := "fnExactAscMac", fn := fun _ => fun
  | [d1, d2] => { results := [.lit (.bool false)], args := [d1, d2] }
  | _ => none }
def FnExactAscMacWrongFalsely : Prop := fnExactAscMacRow.holds Try.pinned (OpenSpec.ofChange fnExactAscMacWrong)

/-- 'laws.FnExactDatPipeOk': WHATEVER THE INPUT: true; the input reads as it did. -/
def fnExactDatPipeOkSpec : ChangeSpec := { name := "fnExactDatPipeOk", fn := fun _ => fun
  | [d] => { results := [.lit (.bool true)], args := [d] }
  | _ => none }
def fnExactDatPipeOkRow : OpenClaim := { program := "ytcflkcjicaieeaa", sum := "6d31b423b63d0714c9a47980d9973a4999c51b1a16804b41af590d32662f4194", func := "loop.example/trunk/laws.FnExactDatPipeOk", spec := "fnExactDatPipeOk", unfollowed := true, recurses := true, apart := false }
def FnExactDatPipeOkSaid : Prop := fnExactDatPipeOkRow.holds Try.pinned (OpenSpec.ofChange fnExactDatPipeOkSpec)

/-- ITS FALSE NEIGHBOUR: 'it returns false'. Refute it at one input. -/
def fnExactDatPipeOkWrong : ChangeSpec := { name := "fnExactDatPipeOk", fn := fun _ => fun
  | [d] => { results := [.lit (.bool false)], args := [d] }
  | _ => none }
def FnExactDatPipeOkWrongFalsely : Prop := fnExactDatPipeOkRow.holds Try.pinned (OpenSpec.ofChange fnExactDatPipeOkWrong)

/-- 'laws.FnExactDatAgain': WHATEVER THE INPUT: true; the input reads as it did. -/
def fnExactDatAgainSpec : ChangeSpec := { name := "fnExactDatAgain", fn := fun _ => fun
  | [d1, d2] => { results := [.lit (.bool true)], args := [d1, d2] }
  | _ => none }
def fnExactDatAgainRow : OpenClaim := { program := "ytcflkcjicaieeaa", sum := "6d31b423b63d0714c9a47980d9973a4999c51b1a16804b41af590d32662f4194", func := "loop.example/trunk/laws.FnExactDatAgain", spec := "fnExactDatAgain", unfollowed := true, recurses := true, apart := false }
def FnExactDatAgainSaid : Prop := fnExactDatAgainRow.holds Try.pinned (OpenSpec.ofChange fnExactDatAgainSpec)

/-- ITS FALSE NEIGHBOUR: 'it returns false'. Refute it at one input. -/
def fnExactDatAgainWrong : ChangeSpec := { name := "fnExactDatAgain", fn := fun _ => fun
  | [d1, d2] => { results := [.lit (.bool false)], args := [d1, d2] }
  | _ => none }
def FnExactDatAgainWrongFalsely : Prop := fnExactDatAgainRow.holds Try.pinned (OpenSpec.ofChange fnExactDatAgainWrong)

/- THE SECOND FORM. 'bulk': how many values and letters a reading holds, each counted each time it is reached (what is shared counts as often as it is met; a slice's spare places count too). A statement '..UptoSaid' is the law's where the arguments, and the package variables that the reading takes, are together of bulk at most 1048576: NARROWER than '..Said'. Prove '..Said' where nothing that the law and all that it calls make is longer than what came in: it says more and counts as full. Else prove '..UptoSaid'. A law counts once. -/
mutual
def uptoBulk {H : Type} : DataW H → Nat
  | .lit (.string bytes) => bytes.length + 1
  | .lit _ => 1
  | .nil => 1
  | .ptr d => uptoBulk d + 1
  | .slice elems spare => uptoBulkAll elems + uptoBulkAll spare + 1
  | .agg parts => uptoBulkAll parts + 1
  | .iface _ d => uptoBulk d + 1
  | .map entries => uptoBulkEntries entries + 1
  | .held _ => 1
def uptoBulkAll {H : Type} : List (DataW H) → Nat
  | [] => 0
  | d :: r => uptoBulk d + uptoBulkAll r
def uptoBulkEntries {H : Type} : List (Lit × DataW H) → Nat
  | [] => 0
  | x :: r => uptoBulkEntry x + uptoBulkEntries r
def uptoBulkEntry {H : Type} : Lit × DataW H → Nat
  | (.string bytes, d) => bytes.length + uptoBulk d + 1
  | (_, d) => uptoBulk d + 1
 end
def uptoSmall : (H : Type) → List (DataW H) → Bool := fun _ ds => decide (uptoBulkAll ds ≤ 1048576)
def OpenSpec.upto (s : _root_.Go.ChangeSpec) : _root_.Go.OpenSpec := { _root_.Go.OpenSpec.ofChange s with cond := some uptoSmall }

/-- 'laws.FnExactPthPick', WHERE WHAT IT READS IS OF BULK AT MOST 1048576: true; the input reads as it did. -/
def fnExactPthPickUptoRow : OpenClaim := { program := "ytcflkcjicaieeaa", sum := "6d31b423b63d0714c9a47980d9973a4999c51b1a16804b41af590d32662f4194", func := "loop.example/trunk/laws.FnExactPthPick", spec := "fnExactPthPick", unfollowed := true, recurses := true, apart := false, narrowed := true }
def FnExactPthPickUptoSaid : Prop := fnExactPthPickUptoRow.holds Try.pinned (OpenSpec.upto fnExactPthPickSpec)

/-- 'laws.FnExactDatInOk', WHERE WHAT IT READS IS OF BULK AT MOST 1048576: true; the input reads as it did. -/
def fnExactDatInOkUptoRow : OpenClaim := { program := "ytcflkcjicaieeaa", sum := "6d31b423b63d0714c9a47980d9973a4999c51b1a16804b41af590d32662f4194", func := "loop.example/trunk/laws.FnExactDatInOk", spec := "fnExactDatInOk", unfollowed := true, recurses := true, apart := false, narrowed := true }
def FnExactDatInOkUptoSaid : Prop := fnExactDatInOkUptoRow.holds Try.pinned (OpenSpec.upto fnExactDatInOkSpec)

/-- 'laws.FnExactDatInOpen', WHERE WHAT IT READS IS OF BULK AT MOST 1048576: true; the input reads as it did. -/
def fnExactDatInOpenUptoRow : OpenClaim := { program := "ytcflkcjicaieeaa", sum := "6d31b423b63d0714c9a47980d9973a4999c51b1a16804b41af590d32662f4194", func := "loop.example/trunk/laws.FnExactDatInOpen", spec := "fnExactDatInOpen", apart := false, narrowed := true }
def FnExactDatInOpenUptoSaid : Prop := fnExactDatInOpenUptoRow.holds Try.pinned (OpenSpec.upto fnExactDatInOpenSpec)

/-- 'laws.FnKey', WHERE WHAT IT READS IS OF BULK AT MOST 1048576: true; the input reads as it did. -/
def fnKeyUptoRow : OpenClaim := { program := "ytcflkcjicaieeaa", sum := "6d31b423b63d0714c9a47980d9973a4999c51b1a16804b41af590d32662f4194", func := "loop.example/trunk/laws.FnKey", spec := "fnKey", unfollowed := true, recurses := true, apart := false, narrowed := true }
def FnKeyUptoSaid : Prop := fnKeyUptoRow.holds Try.pinned (OpenSpec.upto fnKeySpec)

/-- 'laws.FnExactAspOk', WHERE WHAT IT READS IS OF BULK AT MOST 1048576: true; the input reads as it did. -/
def fnExactAspOkUptoRow : OpenClaim := { program := "ytcflkcjicaieeaa", sum := "6d31b423b63d0714c9a47980d9973a4999c51b1a16804b41af590d32662f4194", func := "loop.example/trunk/laws.FnExactAspOk", spec := "fnExactAspOk", apart := false, narrowed := true }
def FnExactAspOkUptoSaid : Prop := fnExactAspOkUptoRow.holds Try.pinned (OpenSpec.upto fnExactAspOkSpec)

/-- 'laws.FnExactMsgOk', WHERE WHAT IT READS IS OF BULK AT MOST 1048576: true; the input reads as it did. -/
def fnExactMsgOkUptoRow : OpenClaim := { program := "ytcflkcjicaieeaa", sum := "6d31b423b63d0714c9a47980d9973a4999c51b1a16804b41af590d32662f4194", func := "loop.example/trunk/laws.FnExactMsgOk", spec := "fnExactMsgOk", unfollowed := true, recurses := true, apart := false, narrowed := true }
def FnExactMsgOkUptoSaid : Prop := fnExactMsgOkUptoRow.holds Try.pinned (OpenSpec.upto fnExactMsgOkSpec)

/-- 'laws.FnExactDatEnd', WHERE WHAT IT READS IS OF BULK AT MOST 1048576: true; the input reads as it did. -/
def fnExactDatEndUptoRow : OpenClaim := { program := "ytcflkcjicaieeaa", sum := "6d31b423b63d0714c9a47980d9973a4999c51b1a16804b41af590d32662f4194", func := "loop.example/trunk/laws.FnExactDatEnd", spec := "fnExactDatEnd", unfollowed := true, recurses := true, apart := false, narrowed := true }
def FnExactDatEndUptoSaid : Prop := fnExactDatEndUptoRow.holds Try.pinned (OpenSpec.upto fnExactDatEndSpec)

/-- 'laws.FnExactDatPush', WHERE WHAT IT READS IS OF BULK AT MOST 1048576: true; the input reads as it did. -/
def fnExactDatPushUptoRow : OpenClaim := { program := "ytcflkcjicaieeaa", sum := "6d31b423b63d0714c9a47980d9973a4999c51b1a16804b41af590d32662f4194", func := "loop.example/trunk/laws.FnExactDatPush", spec := "fnExactDatPush", unfollowed := true, recurses := true, apart := false, narrowed := true }
def FnExactDatPushUptoSaid : Prop := fnExactDatPushUptoRow.holds Try.pinned (OpenSpec.upto fnExactDatPushSpec)

/-- 'laws.FnExactDatPipeOpen', WHERE WHAT IT READS IS OF BULK AT MOST 1048576: true; the input reads as it did. -/
def fnExactDatPipeOpenUptoRow : OpenClaim := { program := "ytcflkcjicaieeaa", sum := "6d31b423b63d0714c9a47980d9973a4999c51b1a16804b41af590d32662f4194", func := "loop.example/trunk/laws.FnExactDatPipeOpen", spec := "fnExactDatPipeOpen", apart := false, narrowed := true }
def FnExactDatPipeOpenUptoSaid : Prop := fnExactDatPipeOpenUptoRow.holds Try.pinned (OpenSpec.upto fnExactDatPipeOpenSpec)

/-- 'laws.FnExactAscMac', WHERE WHAT IT READS IS OF BULK AT MOST 1048576: true; the input reads as it did. -/
def fnExactAscMacUptoRow : OpenClaim := { program := "ytcflkcjicaieeaa", sum := "6d31b423b63d0714c9a47980d9973a4999c51b1a16804b41af590d32662f4194", func := "loop.example/trunk/laws.FnExactAscMac", spec := "fnExactAscMac", apart := false, narrowed := true }
def FnExactAscMacUptoSaid : Prop := fnExactAscMacUptoRow.holds Try.pinned (OpenSpec.upto fnExactAscMacSpec)

/-- 'laws.FnExactDatPipeOk', WHERE WHAT IT READS IS OF BULK AT MOST 1048576: true; the input reads as it did. -/
def fnExactDatPipeOkUptoRow : OpenClaim := { program := "ytcflkcjicaieeaa", sum := "6d31b423b63d0714c9a47980d9973a4999c51b1a16804b41af590d32662f4194", func := "loop.example/trunk/laws.FnExactDatPipeOk", spec := "fnExactDatPipeOk", unfollowed := true, recurses := true, apart := false, narrowed := true }
def FnExactDatPipeOkUptoSaid : Prop := fnExactDatPipeOkUptoRow.holds Try.pinned (OpenSpec.upto fnExactDatPipeOkSpec)

/-- 'laws.FnExactDatAgain', WHERE WHAT IT READS IS OF BULK AT MOST 1048576: true; the input reads as it did. -/
def fnExactDatAgainUptoRow : OpenClaim := { program := "ytcflkcjicaieeaa", sum := "6d31b423b63d0714c9a47980d9973a4999c51b1a16804b41af590d32662f4194", func := "loop.example/trunk/laws.FnExactDatAgain", spec := "fnExactDatAgain", unfollowed := true, recurses := true, apart := false, narrowed := true }
def FnExactDatAgainUptoSaid : Prop := fnExactDatAgainUptoRow.holds Try.pinned (OpenSpec.upto fnExactDatAgainSpec)

end Rows
end Go.Proofs.Ytcflkcjicaieeaa
