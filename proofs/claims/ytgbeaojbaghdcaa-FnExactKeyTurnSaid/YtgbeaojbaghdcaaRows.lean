/-
  No cell of these rows narrows 'for every input' (looked for: loops, veiled, ifaces, maps, wideKeys, modest, calm, conditions, laid).
  DERIVED. THE GIVEN ROWS OF THIS SEAT. 10 by the template 'for every input the law returns true; each argument reads behind the call as it read before'; 0 by the template 'total and deterministic' (their statements: YtgbeaojbaghdcaaTotals.lean).
  GIVEN WITH THE SEED: the statements are not yours to turn. If you find one false, say at which input.
  Laid BY PROGRAM, IN A SANDBOX (cutbox-rows.mjs): the forced cells as the released guide's own fill.sh prints them over the translation 7993ee18f5591d8c… (all of the seat's roots in one cut). By AI agents, Wed Nov 11 2026. No macro, syntax, notation, axiom, sorry.
-/
import Derived.Test.YtgbeaojbaghdcaaChecked
import GoSem.Claim
import GoSem.ClaimJoined
import GoSem.ClaimMapViews
import Derived.JoinedTies
import Derived.KernelRfl
namespace Go.Proofs.Ytgbeaojbaghdcaa
/- THE CELL 'sum', in the pinned program and in every row, IS THE sha256 OF THE DUMP (.gsa) THAT YtgbeaojbaghdcaaProg.lean LOADS. Nothing in Lean hashes anything: it is a label: what it is worth is what the hold of that sum in a sandbox is worth. -/
noncomputable def Try.pinned : Pinned := { name := "ytgbeaojbaghdcaa", sum := "7993ee18f5591d8c07a15333afb5c3181954b523739ea0ae4450b45138f7a69c", checked := Try.checked }
namespace Rows
def none {H : Type} : Left H := { results := [], args := [] }

/-- 'laws.FnKey': WHATEVER THE INPUT: true; the input reads as it did. -/
def fnKeySpec : ChangeSpec := { name := "fnKey", fn := fun _ => fun
  | [d1, d2] => { results := [.lit (.bool true)], args := [d1, d2] }
  | _ => none }
def fnKeyRow : OpenClaim := { program := "ytgbeaojbaghdcaa", sum := "7993ee18f5591d8c07a15333afb5c3181954b523739ea0ae4450b45138f7a69c", func := "loop.example/trunk/laws.FnKey", spec := "fnKey", unfollowed := true, recurses := true, apart := false }
def FnKeySaid : Prop := fnKeyRow.holds Try.pinned (OpenSpec.ofChange fnKeySpec)

/-- ITS FALSE NEIGHBOUR: 'it returns false'. Refute it at one input. -/
def fnKeyWrong : ChangeSpec := { name := "fnKey", fn := fun _ => fun
  | [d1, d2] => { results := [.lit (.bool false)], args := [d1, d2] }
  | _ => none }
def FnKeyWrongFalsely : Prop := fnKeyRow.holds Try.pinned (OpenSpec.ofChange fnKeyWrong)

/-- 'laws.FnExactDatPipeOpen': WHATEVER THE INPUT: true; the input reads as it did. -/
def fnExactDatPipeOpenSpec : ChangeSpec := { name := "fnExactDatPipeOpen", fn := fun _ => fun
  | [d1, d2] => { results := [.lit (.bool true)], args := [d1, d2] }
  | _ => none }
def fnExactDatPipeOpenRow : OpenClaim := { program := "ytgbeaojbaghdcaa", sum := "7993ee18f5591d8c07a15333afb5c3181954b523739ea0ae4450b45138f7a69c", func := "loop.example/trunk/laws.FnExactDatPipeOpen", spec := "fnExactDatPipeOpen", apart := false }
def FnExactDatPipeOpenSaid : Prop := fnExactDatPipeOpenRow.holds Try.pinned (OpenSpec.ofChange fnExactDatPipeOpenSpec)

/-- ITS FALSE NEIGHBOUR: 'it returns false'. Refute it at one input. -/
def fnExactDatPipeOpenWrong : ChangeSpec := { name := "fnExactDatPipeOpen", fn := fun _ => fun
  | [d1, d2] => { results := [.lit (.bool false)], args := [d1, d2] }
  | _ => none }
def FnExactDatPipeOpenWrongFalsely : Prop := fnExactDatPipeOpenRow.holds Try.pinned (OpenSpec.ofChange fnExactDatPipeOpenWrong)

/-- 'laws.FnExactMsgOk': WHATEVER THE INPUT: true; the input reads as it did. -/
def fnExactMsgOkSpec : ChangeSpec := { name := "fnExactMsgOk", fn := fun _ => fun
  | [d] => { results := [.lit (.bool true)], args := [d] }
  | _ => none }
def fnExactMsgOkRow : OpenClaim := { program := "ytgbeaojbaghdcaa", sum := "7993ee18f5591d8c07a15333afb5c3181954b523739ea0ae4450b45138f7a69c", func := "loop.example/trunk/laws.FnExactMsgOk", spec := "fnExactMsgOk", unfollowed := true, recurses := true, apart := false }
def FnExactMsgOkSaid : Prop := fnExactMsgOkRow.holds Try.pinned (OpenSpec.ofChange fnExactMsgOkSpec)

/-- ITS FALSE NEIGHBOUR: 'it returns false'. Refute it at one input. -/
def fnExactMsgOkWrong : ChangeSpec := { name := "fnExactMsgOk", fn := fun _ => fun
  | [d] => { results := [.lit (.bool false)], args := [d] }
  | _ => none }
def FnExactMsgOkWrongFalsely : Prop := fnExactMsgOkRow.holds Try.pinned (OpenSpec.ofChange fnExactMsgOkWrong)

/-- 'laws.FnExactMsgWrite': WHATEVER THE INPUT: true; the input reads as it did. -/
def fnExactMsgWriteSpec : ChangeSpec := { name := "fnExactMsgWrite", fn := fun _ => fun
  | [d] => { results := [.lit (.bool true)], args := [d] }
  | _ => none }
def fnExactMsgWriteRow : OpenClaim := { program := "ytgbeaojbaghdcaa", sum := "7993ee18f5591d8c07a15333afb5c3181954b523739ea0ae4450b45138f7a69c", func := "loop.example/trunk/laws.FnExactMsgWrite", spec := "fnExactMsgWrite", unfollowed := true, recurses := true, apart := false }
def FnExactMsgWriteSaid : Prop := fnExactMsgWriteRow.holds Try.pinned (OpenSpec.ofChange fnExactMsgWriteSpec)

/-- ITS FALSE NEIGHBOUR: 'it returns false'. Refute it at one input. -/
def fnExactMsgWriteWrong : ChangeSpec := { name := "fnExactMsgWrite", fn := fun _ => fun
  | [d] => { results := [.lit (.bool false)], args := [d] }
  | _ => none }
def FnExactMsgWriteWrongFalsely : Prop := fnExactMsgWriteRow.holds Try.pinned (OpenSpec.ofChange fnExactMsgWriteWrong)

/-- 'laws.FnExactKeyOk': WHATEVER THE INPUT: true; the input reads as it did. -/
def fnExactKeyOkSpec : ChangeSpec := { name := "fnExactKeyOk", fn := fun _ => fun
  | [d] => { results := [.lit (.bool true)], args := [d] }
  | _ => none }
def fnExactKeyOkRow : OpenClaim := { program := "ytgbeaojbaghdcaa", sum := "7993ee18f5591d8c07a15333afb5c3181954b523739ea0ae4450b45138f7a69c", func := "loop.example/trunk/laws.FnExactKeyOk", spec := "fnExactKeyOk", unfollowed := true, recurses := true, apart := false }
def FnExactKeyOkSaid : Prop := fnExactKeyOkRow.holds Try.pinned (OpenSpec.ofChange fnExactKeyOkSpec)

/-- ITS FALSE NEIGHBOUR: 'it returns false'. Refute it at one input. -/
def fnExactKeyOkWrong : ChangeSpec := { name := "fnExactKeyOk", fn := fun _ => fun
  | [d] => { results := [.lit (.bool false)], args := [d] }
  | _ => none }
def FnExactKeyOkWrongFalsely : Prop := fnExactKeyOkRow.holds Try.pinned (OpenSpec.ofChange fnExactKeyOkWrong)

/-- 'laws.FnExactKeyMatch': WHATEVER THE INPUT: true; the input reads as it did. -/
def fnExactKeyMatchSpec : ChangeSpec := { name := "fnExactKeyMatch", fn := fun _ => fun
  | [d1, d2] => { results := [.lit (.bool true)], args := [d1, d2] }
  | _ => none }
def fnExactKeyMatchRow : OpenClaim := { program := "ytgbeaojbaghdcaa", sum := "7993ee18f5591d8c07a15333afb5c3181954b523739ea0ae4450b45138f7a69c", func := "loop.example/trunk/laws.FnExactKeyMatch", spec := "fnExactKeyMatch", unfollowed := true, recurses := true, apart := false }
def FnExactKeyMatchSaid : Prop := fnExactKeyMatchRow.holds Try.pinned (OpenSpec.ofChange fnExactKeyMatchSpec)

/-- ITS FALSE NEIGHBOUR: 'it returns false'. Refute it at one input. -/
def fnExactKeyMatchWrong : ChangeSpec := { name := "fnExactKeyMatch", fn := fun _ => fun
  | [d1, d2] => { results := [.lit (.bool false)], args := [d1, d2] }
  | _ => none }
def FnExactKeyMatchWrongFalsely : Prop := fnExactKeyMatchRow.holds Try.pinned (OpenSpec.ofChange fnExactKeyMatchWrong)

/-- 'laws.FnExactKeyStream': WHATEVER THE INPUT: true; the input reads as it did. -/
def fnExactKeyStreamSpec : ChangeSpec := { name := "fnExactKeyStream", fn := fun _ => fun
  | [d1, d2] => { results := [.lit (.bool true)], args := [d1, d2] }
  | _ => none }
def fnExactKeyStreamRow : OpenClaim := { program := "ytgbeaojbaghdcaa", sum := "7993ee18f5591d8c07a15333afb5c3181954b523739ea0ae4450b45138f7a69c", func := "loop.example/trunk/laws.FnExactKeyStream", spec := "fnExactKeyStream", apart := false }
def FnExactKeyStreamSaid : Prop := fnExactKeyStreamRow.holds Try.pinned (OpenSpec.ofChange fnExactKeyStreamSpec)

/-- ITS FALSE NEIGHBOUR: 'it returns false'. Refute it at one input. -/
def fnExactKeyStreamWrong : ChangeSpec := { name := "fnExactKeyStream", fn := fun _ => fun
  | [d1, d2] => { results := [.lit (.bool false)], args := [d1, d2] }
  | _ => none }
def FnExactKeyStreamWrongFalsely : Prop := fnExactKeyStreamRow.holds Try.pinned (OpenSpec.ofChange fnExactKeyStreamWrong)

/-- 'laws.FnExactKeyTurn': WHATEVER THE INPUT: true; the input reads as it did. -/
def fnExactKeyTurnSpec : ChangeSpec := { name := "fnExactKeyTurn", fn := fun _ => fun
  | [d1, d2] => { results := [.lit (.bool true)], args := [d1, d2] }
  | _ => none }
def fnExactKeyTurnRow : OpenClaim := { program := "ytgbeaojbaghdcaa", sum := "7993ee18f5591d8c07a15333afb5c3181954b523739ea0ae4450b45138f7a69c", func := "loop.example/trunk/laws.FnExactKeyTurn", spec := "fnExactKeyTurn", apart := false }
def FnExactKeyTurnSaid : Prop := fnExactKeyTurnRow.holds Try.pinned (OpenSpec.ofChange fnExactKeyTurnSpec)

/-- ITS FALSE NEIGHBOUR: 'it returns false'. Refute it at one input. -/
def fnExactKeyTurnWrong : ChangeSpec := { name := "fnExactKeyTurn", fn := fun _ => fun
  | [d1, d2] => { results := [.lit (.bool false)], args := [d1, d2] }
  | _ => none }
def FnExactKeyTurnWrongFalsely : Prop := fnExactKeyTurnRow.holds Try.pinned (OpenSpec.ofChange fnExactKeyTurnWrong)

/-- 'laws.FnExactAscMac': WHATEVER THE INPUT: true; the input reads as it did. -/
def fnExactAscMacSpec : ChangeSpec := { name := "fnExactAscMac", fn := fun _ => fun
  | [d1, d2] => { results := [.lit (.bool true)], args := [d1, d2] }
  | _ => none }
def fnExactAscMacRow : OpenClaim := { program := "ytgbeaojbaghdcaa", sum := "7993ee18f5591d8c07a15333afb5c3181954b523739ea0ae4450b45138f7a69c", func := "loop.example/trunk/laws.FnExactAscMac", spec := "fnExactAscMac", apart := false }
def FnExactAscMacSaid : Prop := fnExactAscMacRow.holds Try.pinned (OpenSpec.ofChange fnExactAscMacSpec)

/-- ITS FALSE NEIGHBOUR: 'it returns false'. Refute it at one input. -/
def fnExactAscMacWrong : ChangeSpec := { name := "fnExactAscMac", fn := fun _ => fun
  | [d1, d2] => { results := [.lit (.bool false)], args := [d1, d2] }
  | _ => none }
def FnExactAscMacWrongFalsely : Prop := fnExactAscMacRow.holds Try.pinned (OpenSpec.ofChange fnExactAscMacWrong)

/-- 'laws.FnExactDatInOpen': WHATEVER THE INPUT: true; the input reads as it did. -/
def fnExactDatInOpenSpec : ChangeSpec := { name := "fnExactDatInOpen", fn := fun _ => fun
  | [d1, d2] => { results := [.lit (.bool true)], args := [d1, d2] }
  | _ => none }
def fnExactDatInOpenRow : OpenClaim := { program := "ytgbeaojbaghdcaa", sum := "7993ee18f5591d8c07a15333afb5c3181954b523739ea0ae4450b45138f7a69c", func := "loop.example/trunk/laws.FnExactDatInOpen", spec := "fnExactDatInOpen", apart := false }
def FnExactDatInOpenSaid : Prop := fnExactDatInOpenRow.holds Try.pinned (OpenSpec.ofChange fnExactDatInOpenSpec)

/-- ITS FALSE NEIGHBOUR: 'it returns false'. Refute it at one input. -/
def fnExactDatInOpenWrong : ChangeSpec := { name := "fnExactDatInOpen", fn := fun _ => fun
  | [d1, d2] => { results := [.lit (.bool false)], args := [d1, d2] }
  | _ => none }
def FnExactDatInOpenWrongFalsely : Prop := fnExactDatInOpenRow.holds Try.pinned (OpenSpec.ofChange fnExactDatInOpenWrong)

/- THE SECOND FORM. 'bulk': how many values and letters a reading holds, each counted each time it is reached (what is shared counts as often as it is met; a slice's spare places count too). A statement '..UptoSaid' is the law's where the arguments, and the package variables that the reading takes, are together of bulk at most 1048576: NARROWER than '..Said'. Prove '..Said' where nothing that the law and all that it calls make is longer than what came in: it says more and counts as full. Else prove '..UptoSaid'. A law counts once. -/
mutual
def uptoBulk {H : Type} : DataW H → Nat
  | .lit (.string bytes) => bytes.length + 1
  | .lit _ => 1
  | .nil => 1
  | .ptr d => uptoBulk d + 1
  | .slice elems spare => uptoBulkAll elems + uptoBulkAll spare + 1
  | .agg parts => uptoBulkAll parts + 1
  | .iface _ d => uptoBulk d + 1
  | .map entries => uptoBulkEntries entries + 1
  | .held _ => 1
def uptoBulkAll {H : Type} : List (DataW H) → Nat
  | [] => 0
  | d :: r => uptoBulk d + uptoBulkAll r
def uptoBulkEntries {H : Type} : List (Lit × DataW H) → Nat
  | [] => 0
  | x :: r => uptoBulkEntry x + uptoBulkEntries r
def uptoBulkEntry {H : Type} : Lit × DataW H → Nat
  | (.string bytes, d) => bytes.length + uptoBulk d + 1
  | (_, d) => uptoBulk d + 1
 end
def uptoSmall : (H : Type) → List (DataW H) → Bool := fun _ ds => decide (uptoBulkAll ds ≤ 1048576)
def OpenSpec.upto (s : _root_.Go.ChangeSpec) : _root_.Go.OpenSpec := { _root_.Go.OpenSpec.ofChange s with cond := some uptoSmall }

/-- 'laws.FnKey', WHERE WHAT IT READS IS OF BULK AT MOST 1048576: true; the input reads as it did. -/
def fnKeyUptoRow : OpenClaim := { program := "ytgbeaojbaghdcaa", sum := "7993ee18f5591d8c07a15333afb5c3181954b523739ea0ae4450b45138f7a69c", func := "loop.example/trunk/laws.FnKey", spec := "fnKey", unfollowed := true, recurses := true, apart := false, narrowed := true }
def FnKeyUptoSaid : Prop := fnKeyUptoRow.holds Try.pinned (OpenSpec.upto fnKeySpec)

/-- 'laws.FnExactDatPipeOpen', WHERE WHAT IT READS IS OF BULK AT MOST 1048576: true; the input reads as it did. -/
def fnExactDatPipeOpenUptoRow : OpenClaim := { program := "ytgbeaojbaghdcaa", sum := "7993ee18f5591d8c07a15333afb5c3181954b523739ea0ae4450b45138f7a69c", func := "loop.example/trunk/laws.FnExactDatPipeOpen", spec := "fnExactDatPipeOpen", apart := false, narrowed := true }
def FnExactDatPipeOpenUptoSaid : Prop := fnExactDatPipeOpenUptoRow.holds Try.pinned (OpenSpec.upto fnExactDatPipeOpenSpec)

/-- 'laws.FnExactMsgOk', WHERE WHAT IT READS IS OF BULK AT MOST 1048576: true; the input reads as it did. -/
def fnExactMsgOkUptoRow : OpenClaim := { program := "ytgbeaojbaghdcaa", sum := "7993ee18f5591d8c07a15333afb5c3181954b523739ea0ae4450b45138f7a69c", func := "loop.example/trunk/laws.FnExactMsgOk", spec := "fnExactMsgOk", unfollowed := true, recurses := true, apart := false, narrowed := true }
def FnExactMsgOkUptoSaid : Prop := fnExactMsgOkUptoRow.holds Try.pinned (OpenSpec.upto fnExactMsgOkSpec)

/-- 'laws.FnExactMsgWrite', WHERE WHAT IT READS IS OF BULK AT MOST 1048576: true; the input reads as it did. -/
def fnExactMsgWriteUptoRow : OpenClaim := { program := "ytgbeaojbaghdcaa", sum := "7993ee18f5591d8c07a15333afb5c3181954b523739ea0ae4450b45138f7a69c", func := "loop.example/trunk/laws.FnExactMsgWrite", spec := "fnExactMsgWrite", unfollowed := true, recurses := true, apart := false, narrowed := true }
def FnExactMsgWriteUptoSaid : Prop := fnExactMsgWriteUptoRow.holds Try.pinned (OpenSpec.upto fnExactMsgWriteSpec)

/-- 'laws.FnExactKeyOk', WHERE WHAT IT READS IS OF BULK AT MOST 1048576: true; the input reads as it did. -/
def fnExactKeyOkUptoRow : OpenClaim := { program := "ytgbeaojbaghdcaa", sum := "7993ee18f5591d8c07a15333afb5c3181954b523739ea0ae4450b45138f7a69c", func := "loop.example/trunk/laws.FnExactKeyOk", spec := "fnExactKeyOk", unfollowed := true, recurses := true, apart := false, narrowed := true }
def FnExactKeyOkUptoSaid : Prop := fnExactKeyOkUptoRow.holds Try.pinned (OpenSpec.upto fnExactKeyOkSpec)

/-- 'laws.FnExactKeyMatch', WHERE WHAT IT READS IS OF BULK AT MOST 1048576: true; the input reads as it did. -/
def fnExactKeyMatchUptoRow : OpenClaim := { program := "ytgbeaojbaghdcaa", sum := "7993ee18f5591d8c07a15333afb5c3181954b523739ea0ae4450b45138f7a69c", func := "loop.example/trunk/laws.FnExactKeyMatch", spec := "fnExactKeyMatch", unfollowed := true, recurses := true, apart := false, narrowed := true }
def FnExactKeyMatchUptoSaid : Prop := fnExactKeyMatchUptoRow.holds Try.pinned (OpenSpec.upto fnExactKeyMatchSpec)

/-- 'laws.FnExactKeyStream', WHERE WHAT IT READS IS OF BULK AT MOST 1048576: true; the input reads as it did. -/
def fnExactKeyStreamUptoRow : OpenClaim := { program := "ytgbeaojbaghdcaa", sum := "7993ee18f5591d8c07a15333afb5c3181954b523739ea0ae4450b45138f7a69c", func := "loop.example/trunk/laws.FnExactKeyStream", spec := "fnExactKeyStream", apart := false, narrowed := true }
def FnExactKeyStreamUptoSaid : Prop := fnExactKeyStreamUptoRow.holds Try.pinned (OpenSpec.upto fnExactKeyStreamSpec)

/-- 'laws.FnExactKeyTurn', WHERE WHAT IT READS IS OF BULK AT MOST 1048576: true; the input reads as it did. -/
def fnExactKeyTurnUptoRow : OpenClaim := { program := "ytgbeaojbaghdcaa", sum := "7993ee18f5591d8c07a15333afb5c3181954b523739ea0ae4450b45138f7a69c", func := "loop.example/trunk/laws.FnExactKeyTurn", spec := "fnExactKeyTurn", apart := false, narrowed := true }
def FnExactKeyTurnUptoSaid : Prop := fnExactKeyTurnUptoRow.holds Try.pinned (OpenSpec.upto fnExactKeyTurnSpec)

/-- 'laws.FnExactAscMac', WHERE WHAT IT READS IS OF BULK AT MOST 1048576: true; the input reads as it did. -/
def fnExactAscMacUptoRow : OpenClaim := { program := "ytgbeaojbaghdcaa", sum := "7993ee18f5591d8c07a15333afb5c3181954b523739ea0ae4450b45138f7a69c", func := "loop.example/trunk/laws.FnExactAscMac", spec := "fnExactAscMac", apart := false, narrowed := true }
def FnExactAscMacUptoSaid : Prop := fnExactAscMacUptoRow.holds Try.pinned (OpenSpec.upto fnExactAscMacSpec)

/-- 'laws.FnExactDatInOpen', WHERE WHAT IT READS IS OF BULK AT MOST 1048576: true; the input reads as it did. -/
def fnExactDatInOpenUptoRow : OpenClaim := { program := "ytgbeaojbaghdcaa", sum := "7993ee18f5591d8c07a15333afb5c3181954b523739ea0ae4450b45138f7a69c", func := "loop.example/trunk/laws.FnExactDatInOpen", spec := "fnExactDatInOpen", apart := false, narrowed := true }
def FnExactDatInOpenUptoSaid : Prop := fnExactDatInOpenUptoRow.holds Try.pinned (OpenSpec.upto fnExactDatInOpenSpec)

end Rows
end Go.Proofs.Ytgbeaojbaghdcaa
