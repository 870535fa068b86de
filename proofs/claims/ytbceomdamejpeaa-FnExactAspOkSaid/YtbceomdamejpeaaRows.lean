/-
  No cell of these rows narrows 'for every input' (looked for: loops, veiled, ifaces, maps, wideKeys, modest, calm, conditions, laid).
  DERIVED. THE GIVEN ROWS OF THIS SEAT. 10 by the template 'for every input the law returns true; each argument reads behind the call as it read before'; 0 by the template 'total and deterministic' (their statements: YtbceomdamejpeaaTotals.lean).
  GIVEN WITH THE SEED: the statements are not yours to turn. If you find one false, say at which input.
  Laid BY PROGRAM, IN A SANDBOX (cutbox-rows.mjs): the forced cells as the released guide's own fill.sh prints them over the translation a580e164159bdda1… (all of the seat's roots in one cut). By AI agents, Wed Nov 11 2026. No macro, syntax, notation, axiom, sorry.
-/
import Derived.Test.YtbceomdamejpeaaChecked
import GoSem.Claim
import GoSem.ClaimJoined
import GoSem.ClaimMapViews
import Derived.JoinedTies
import Derived.KernelRfl
namespace Go.Proofs.Ytbceomdamejpeaa
/- THE CELL 'sum', in the pinned program and in every row, IS THE sha256 OF THE DUMP (.gsa) THAT YtbceomdamejpeaaProg.lean LOADS. Nothing in Lean hashes anything: it is a label: what it is worth is what the hold of that sum in a sandbox is worth. -/
noncomputable def Try.pinned : Pinned := { name := "ytbceomdamejpeaa", sum := "a580e164159bdda1a585c05a0ef6330f90b24ad64bb51fa2c546569d5f237534", checked := Try.checked }
namespace Rows
def none {H : Type} : Left H := { results := [], args := [] }

/-- 'laws.FnKey': WHATEVER THE INPUT: true; the input reads as it did. -/
def fnKeySpec : ChangeSpec := { name := "fnKey", fn := fun _ => fun
  | [d1, d2] => { results := [.lit (.bool true)], args := [d1, d2] }
  | _ => none }
def fnKeyRow : OpenClaim := { program := "ytbceomdamejpeaa", sum := "a580e164159bdda1a585c05a0ef6330f90b24ad64bb51fa2c546569d5f237534", func := "loop.example/trunk/laws.FnKey", spec := "fnKey", unfollowed := true, recurses := true, apart := false }
def FnKeySaid : Prop := fnKeyRow.holds Try.pinned (OpenSpec.ofChange fnKeySpec)

/-- ITS FALSE NEIGHBOUR: 'it returns false'. Refute it at one input. -/
def fnKeyWrong : ChangeSpec := { name := "fnKey", fn := fun _ => fun
  | [d1, d2] => { results := [.lit (.bool false)], args := [d1, d2] }
  | _ => none }
def FnKeyWrongFalsely : Prop := fnKeyRow.holds Try.pinned (OpenSpec.ofChange fnKeyWrong)

/-- 'laws.FnWays': WHATEVER THE INPUT: true; the input reads as it did. -/
def fnWaysSpec : ChangeSpec := { name := "fnWays", fn := fun _ => fun
  | [d1, d2] => { results := [.lit (.bool true)], args := [d1, d2] }
  | _ => none }
def fnWaysRow : OpenClaim := { program := "ytbceomdamejpeaa", sum := "a580e164159bdda1a585c05a0ef6330f90b24ad64bb51fa2c546569d5f237534", func := "loop.example/trunk/laws.FnWays", spec := "fnWays", unfollowed := true, recurses := true, apart := false }
def FnWaysSaid : Prop := fnWaysRow.holds Try.pinned (OpenSpec.ofChange fnWaysSpec)

/-- ITS FALSE NEIGHBOUR: 'it returns false'. Refute it at one input. -/
def fnWaysWrong : ChangeSpec := { name := "fnWays", fn := fun _ => fun
  | [d1, d2] => { results := [.lit (.bool false)], args := [d1, d2] }
  | _ => none }
def FnWaysWrongFalsely : Prop := fnWaysRow.holds Try.pinned (OpenSpec.ofChange fnWaysWrong)

/-- 'laws.FnExactPthPick': WHATEVER THE INPUT: true; the input reads as it did. -/
def fnExactPthPickSpec : ChangeSpec := { name := "fnExactPthPick", fn := fun _ => fun
  | [d1, d2] => { results := [.lit (.bool true)], args := [d1, d2] }
  | _ => none }
def fnExactPthPickRow : OpenClaim := { program := "ytbceomdamejpeaa", sum := "a580e164159bdda1a585c05a0ef6330f90b24ad64bb51fa2c546569d5f237534", func := "loop.example/trunk/laws.FnExactPthPick", spec := "fnExactPthPick", unfollowed := true, recurses := true, apart := false }
def FnExactPthPickSaid : Prop := fnExactPthPickRow.holds Try.pinned (OpenSpec.ofChange fnExactPthPickSpec)

/-- ITS FALSE NEIGHBOUR: 'it returns false'. Refute it at one input. -/
def fnExactPthPickWrong : ChangeSpec := { name := "fnExactPthPick", fn := fun _ => fun
  | [d1, d2] => { results := [.lit (.bool false)], args := [d1, d2] }
  | _ => none }
def FnExactPthPickWrongFalsely : Prop := fnExactPthPickRow.holds Try.pinned (OpenSpec.ofChange fnExactPthPickWrong)

/-- 'laws.FnExactAspOk': WHATEVER THE INPUT: true; the input reads as it did. -/
def fnExactAspOkSpec : ChangeSpec := { name := "fnExactAspOk", fn := fun _ => fun
  | [d] => { results := [.lit (.bool true)], args := [d] }
  | _ => none }
def fnExactAspOkRow : OpenClaim := { program := "ytbceomdamejpeaa", sum := "a580e164159bdda1a585c05a0ef6330f90b24ad64bb51fa2c546569d5f237534", func := "loop.example/trunk/laws.FnExactAspOk", spec := "fnExactAspOk", apart := false }
def FnExactAspOkSaid : Prop := fnExactAspOkRow.holds Try.pinned (OpenSpec.ofChange fnExactAspOkSpec)

/-- ITS FALSE NEIGHBOUR: 'it returns false'. Refute it at one input. -/
def fnExactAspOkWrong : ChangeSpec := { name := "fnExactAspOk", fn := fun _ => fun
  | [d] => { results := [.lit (.bool false)], args := [d] }
  | _ => none }
def FnExactAspOkWrongFalsely : Prop := fnExactAspOkRow.holds Try.pinned (OpenSpec.ofChange fnExactAspOkWrong)

/-- 'laws.FnExactAscEndOk': WHATEVER THE INPUT: true; the input reads as it did. -/
def fnExactAscEndOkSpec : ChangeSpec := { name := "fnExactAscEndOk", fn := fun _ => fun
  | [d] => { results := [.lit (.bool true)], args := [d] }
  | _ => none }
def fnExactAscEndOkRow : OpenClaim := { program := "ytbceomdamejpeaa", sum := "a580e164159bdda1a585c05a0ef6330f90b24ad64bb51fa2c546569d5f237534", func := "loop.example/trunk/laws.FnExactAscEndOk", spec := "fnExactAscEndOk", unfollowed := true, recurses := true, apart := false }
def FnExactAscEndOkSaid : Prop := fnExactAscEndOkRow.holds Try.pinned (OpenSpec.ofChange fnExactAscEndOkSpec)

/-- ITS FALSE NEIGHBOUR: 'it returns false'. Refute it at one input. -/
def fnExactAscEndOkWrong : ChangeSpec := { name := "fnExactAscEndOk", fn := fun _ => fun
  | [d] => { results := [.lit (.bool false)], args := [d] }
  | _ => none }
def FnExactAscEndOkWrongFalsely : Prop := fnExactAscEndOkRow.holds Try.pinned (OpenSpec.ofChange fnExactAscEndOkWrong)

/-- 'laws.FnExactMsgOk': WHATEVER THE INPUT: true; the input reads as it did. -/
def fnExactMsgOkSpec : ChangeSpec := { name := "fnExactMsgOk", fn := fun _ => fun
  | [d] => { results := [.lit (.bool true)], args := [d] }
  | _ => none }
def fnExactMsgOkRow : OpenClaim := { program := "ytbceomdamejpeaa", sum := "a580e164159bdda1a585c05a0ef6330f90b24ad64bb51fa2c546569d5f237534", func := "loop.example/trunk/laws.FnExactMsgOk", spec := "fnExactMsgOk", unfollowed := true, recurses := true, apart := false }
def FnExactMsgOkSaid : Prop := fnExactMsgOkRow.holds Try.pinned (OpenSpec.ofChange fnExactMsgOkSpec)

/-- ITS FALSE NEIGHBOUR: 'it returns false'. Refute it at one input. -/
def fnExactMsgOkWrong : ChangeSpec := { name := "fnExactMsgOk", fn := fun _ => fun
  | [d] => { results := [.lit (.bool false)], args := [d] }
  | _ => none }
def FnExactMsgOkWrongFalsely : Prop := fnExactMsgOkRow.holds Try.pinned (OpenSpec.ofChange fnExactMsgOkWrong)

/-- 'laws.FnExactDatPipeOpen': WHATEVER THE INPUT: true; the input reads as it did. -/
def fnExactDatPipeOpenSpec : ChangeSpec := { name := "fnExactDatPipeOpen", fn := fun _ => fun
  | [d1, d2] => { results := [.lit (.bool true)], args := [d1, d2] }
  | _ => none }
def fnExactDatPipeOpenRow : OpenClaim := { program := "ytbceomdamejpeaa", sum := "a580e164159bdda1a585c05a0ef6330f90b24ad64bb51fa2c546569d5f237534", func := "loop.example/trunk/laws.FnExactDatPipeOpen", spec := "fnExactDatPipeOpen", apart := false }
def FnExactDatPipeOpenSaid : Prop := fnExactDatPipeOpenRow.holds Try.pinned (OpenSpec.ofChange fnExactDatPipeOpenSpec)

/-- ITS FALSE NEIGHBOUR: 'it returns false'. Refute it at one input. -/
def fnExactDatPipeOpenWrong : ChangeSpec := { name := "fnExactDatPipeOpen", fn := fun _ => fun
  | [d1, d2] => { results := [.lit (.bool false)], args := [d1, d2] }
  | _ => none }
def FnExactDatPipeOpenWrongFalsely : Prop := fnExactDatPipeOpenRow.holds Try.pinned (OpenSpec.ofChange fnExactDatPipeOpenWrong)

/-- 'laws.FnExactAspOpen': WHATEVER THE INPUT: true; the input reads as it did. -/
def fnExactAspOpenSpec : ChangeSpec := { name := "fnExactAspOpen", fn := fun _ => fun
  | [d1, d2] => { results := [.lit (.bool true)], args := [d1, d2] }
  | _ => none }
def fnExactAspOpenRow : OpenClaim := { program := "ytbceomdamejpeaa", sum := "a580e164159bdda1a585c05a0ef6330f90b24ad64bb51fa2c546569d5f237534", func := "loop.example/trunk/laws.FnExactAspOpen", spec := "fnExactAspOpen", apart := false }
def FnExactAspOpenSaid : Prop := fnExactAspOpenRow.holds Try.pinned (OpenSpec.ofChange fnExactAspOpenSpec)

/-- ITS FALSE NEIGHBOUR: 'it returns false'. Refute it at one input. -/
def fnExactAspOpenWrong : ChangeSpec := { name := "fnExactAspOpen", fn := fun _ => fun
  | [d1, d2] => { results := [.lit (.bool false)], args := [d1, d2] }
  | _ => none }
def FnExactAspOpenWrongFalsely : Prop := fnExactAspOpenRow.holds Try.pinned (OpenSpec.ofChange fnExactAspOpenWrong)

/-- 'laws.FnExactFrmChunkOk': WHATEVER THE INPUT: true; the input reads as it did. -/
def fnExactFrmChunkOkSpec : ChangeSpec := { name := "fnExactFrmChunkOk", fn := fun _ => fun
  | [d] => { results := [.lit (.bool true)], args := [d] }
  | _ => none }
def fnExactFrmChunkOkRow : OpenClaim := { program := "ytbceomdamejpeaa", sum := "a580e164159bdda1a585c05a0ef6330f90b24ad64bb51fa2c546569d5f237534", func := "loop.example/trunk/laws.FnExactFrmChunkOk", spec := "fnExactFrmChunkOk", unfollowed := true, recurses := true, apart := false }
def FnExactFrmChunkOkSaid : Prop := fnExactFrmChunkOkRow.holds Try.pinned (OpenSpec.ofChange fnExactFrmChunkOkSpec)

/-- ITS FALSE NEIGHBOUR: 'it returns false'. Refute it at one input. -/
def fnExactFrmChunkOkWrong : ChangeSpec := { name := "fnExactFrmChunkOk", fn := fun _ => fun
  | [d] => { results := [.lit (.bool false)], args := [d] }
  | _ => none }
def FnExactFrmChunkOkWrongFalsely : Prop := fnExactFrmChunkOkRow.holds Try.pinned (OpenSpec.ofChange fnExactFrmChunkOkWrong)

/-- 'laws.FnExactDatPush': WHATEVER THE INPUT: true; the input reads as it did. -/
def fnExactDatPushSpec : ChangeSpec := { name := "fnExactDatPush", fn := fun _ => fun
  | [d1, d2] => { results := [.lit (.bool true)], args := [d1, d2] }
  | _ => none }
def fnExactDatPushRow : OpenClaim := { program := "ytbceomdamejpeaa", sum := "a580e164159bdda1a585c05a0ef6330f90b24ad64bb51fa2c546569d5f237534", func := "loop.example/trunk/laws.FnExactDatPush", spec := "fnExactDatPush", unfollowed := true, recurses := true, apart := false }
def FnExactDatPushSaid : Prop := fnExactDatPushRow.holds Try.pinned (OpenSpec.ofChange fnExactDatPushSpec)

/-- ITS FALSE NEIGHBOUR: 'it returns false'. Refute it at one input. -/
def fnExactDatPushWrong : ChangeSpec := { name := "fnExactDatPush", fn := fun _ => fun
  | [d1, d2] => { results := [.lit (.bool false)], args := [d1, d2] }
  | _ => none }
def FnExactDatPushWrongFalsely : Prop := fnExactDatPushRow.holds Try.pinned (OpenSpec.ofChange fnExactDatPushWrong)

/- THE SECOND FORM. 'bulk': how many values and letters a reading holds, each counted each time it is reached (what is shared counts as often as it is met; a slice's spare places count too). A statement '..UptoSaid' is the law's where the arguments, and the package variables that the reading takes, are together of bulk at most 1048576: NARROWER than '..Said'. Prove '..Said' where nothing that the law and all that it calls make is longer than what came in: it says more and counts as full. Else prove '..UptoSaid'. A law counts once. -/
mutual
def uptoBulk {H : Type} : DataW H → Nat
  | .lit (.string bytes) => bytes.length + 1
  | .lit _ => 1
  | .nil => 1
  | .ptr d => uptoBulk d + 1
  | .slice elems spare => uptoBulkAll elems + uptoBulkAll spare + 1
  | .agg parts => uptoBulkAll parts + 1
  | .iface _ d => uptoBulk d + 1
  | .map entries => uptoBulkEntries entries + 1
  | .held _ => 1
def uptoBulkAll {H : Type} : List (DataW H) → Nat
  | [] => 0
  | d :: r => uptoBulk d + uptoBulkAll r
def uptoBulkEntries {H : Type} : List (Lit × DataW H) → Nat
  | [] => 0
  | x :: r => uptoBulkEntry x + uptoBulkEntries r
def uptoBulkEntry {H : Type} : Lit × DataW H → Nat
  | (.string bytes, d) => bytes.length + uptoBulk d + 1
  | (_, d) => uptoBulk d + 1
 end
def uptoSmall : (H : Type) → List (DataW H) → Bool := fun _ ds => decide (uptoBulkAll ds ≤ 1048576)
def OpenSpec.upto (s : _root_.Go.ChangeSpec) : _root_.Go.OpenSpec := { _root_.Go.OpenSpec.ofChange s with cond := some uptoSmall }

/-- 'laws.FnKey', WHERE WHAT IT READS IS OF BULK AT MOST 1048576: true; the input reads as it did. -/
def fnKeyUptoRow : OpenClaim := { program := "ytbceomdamejpeaa", sum := "a580e164159bdda1a585c05a0ef6330f90b24ad64bb51fa2c546569d5f237534", func := "loop.example/trunk/laws.FnKey", spec := "fnKey", unfollowed := true, recurses := true, apart := false, narrowed := true }
def FnKeyUptoSaid : Prop := fnKeyUptoRow.holds Try.pinned (OpenSpec.upto fnKeySpec)

/-- 'laws.FnWays', WHERE WHAT IT READS IS OF BULK AT MOST 1048576: true; the input reads as it did. -/
def fnWaysUptoRow : OpenClaim := { program := "ytbceomdamejpeaa", sum := "a580e164159bdda1a585c05a0ef6330f90b24ad64bb51fa2c546569d5f237534", func := "loop.example/trunk/laws.FnWays", spec := "fnWays", unfollowed := true, recurses := true, apart := false, narrowed := true }
def FnWaysUptoSaid : Prop := fnWaysUptoRow.holds Try.pinned (OpenSpec.upto fnWaysSpec)

/-- 'laws.FnExactPthPick', WHERE WHAT IT READS IS OF BULK AT MOST 1048576: true; the input reads as it did. -/
def fnExactPthPickUptoRow : OpenClaim := { program := "ytbceomdamejpeaa", sum := "a580e164159bdda1a585c05a0ef6330f90b24ad64bb51fa2c546569d5f237534", func := "loop.example/trunk/laws.FnExactPthPick", spec := "fnExactPthPick", unfollowed := true, recurses := true, apart := false, narrowed := true }
def FnExactPthPickUptoSaid : Prop := fnExactPthPickUptoRow.holds Try.pinned (OpenSpec.upto fnExactPthPickSpec)

/-- 'laws.FnExactAspOk', WHERE WHAT IT READS IS OF BULK AT MOST 1048576: true; the input reads as it did. -/
def fnExactAspOkUptoRow : OpenClaim := { program := "ytbceomdamejpeaa", sum := "a580e164159bdda1a585c05a0ef6330f90b24ad64bb51fa2c546569d5f237534", func := "loop.example/trunk/laws.FnExactAspOk", spec := "fnExactAspOk", apart := false, narrowed := true }
def FnExactAspOkUptoSaid : Prop := fnExactAspOkUptoRow.holds Try.pinned (OpenSpec.upto fnExactAspOkSpec)

/-- 'laws.FnExactAscEndOk', WHERE WHAT IT READS IS OF BULK AT MOST 1048576: true; the input reads as it did. -/
def fnExactAscEndOkUptoRow : OpenClaim := { program := "ytbceomdamejpeaa", sum := "a580e164159bdda1a585c05a0ef6330f90b24ad64bb51fa2c546569d5f237534", func := "loop.example/trunk/laws.FnExactAscEndOk", spec := "fnExactAscEndOk", unfollowed := true, recurses := true, apart := false, narrowed := true }
def FnExactAscEndOkUptoSaid : Prop := fnExactAscEndOkUptoRow.holds Try.pinned (OpenSpec.upto fnExactAscEndOkSpec)

/-- 'laws.FnExactMsgOk', WHERE WHAT IT READS IS OF BULK AT MOST 1048576: true; the input reads as it did. -/
def fnExactMsgOkUptoRow : OpenClaim := { program := "ytbceomdamejpeaa", sum := "a580e164159bdda1a585c05a0ef6330f90b24ad64bb51fa2c546569d5f237534", func := "loop.example/trunk/laws.FnExactMsgOk", spec := "fnExactMsgOk", unfollowed := true, recurses := true, apart := false, narrowed := true }
def FnExactMsgOkUptoSaid : Prop := fnExactMsgOkUptoRow.holds Try.pinned (OpenSpec.upto fnExactMsgOkSpec)

/-- 'laws.FnExactDatPipeOpen', WHERE WHAT IT READS IS OF BULK AT MOST 1048576: true; the input reads as it did. -/
def fnExactDatPipeOpenUptoRow : OpenClaim := { program := "ytbceomdamejpeaa", sum := "a580e164159bdda1a585c05a0ef6330f90b24ad64bb51fa2c546569d5f237534", func := "loop.example/trunk/laws.FnExactDatPipeOpen", spec := "fnExactDatPipeOpen", apart := false, narrowed := true }
def FnExactDatPipeOpenUptoSaid : Prop := fnExactDatPipeOpenUptoRow.holds Try.pinned (OpenSpec.upto fnExactDatPipeOpenSpec)

/-- 'laws.FnExactAspOpen', WHERE WHAT IT READS IS OF BULK AT MOST 1048576: true; the input reads as it did. -/
def fnExactAspOpenUptoRow : OpenClaim := { program := "ytbceomdamejpeaa", sum := "a580e164159bdda1a585c05a0ef6330f90b24ad64bb51fa2c546569d5f237534", func := "loop.example/trunk/laws.FnExactAspOpen", spec := "fnExactAspOpen", apart := false, narrowed := true }
def FnExactAspOpenUptoSaid : Prop := fnExactAspOpenUptoRow.holds Try.pinned (OpenSpec.upto fnExactAspOpenSpec)

/-- 'laws.FnExactFrmChunkOk', WHERE WHAT IT READS IS OF BULK AT MOST 1048576: true; the input reads as it did. -/
def fnExactFrmChunkOkUptoRow : OpenClaim := { program := "ytbceomdamejpeaa", sum := "a580e164159bdda1a585c05a0ef6330f90b24ad64bb51fa2c546569d5f237534", func := "loop.example/trunk/laws.FnExactFrmChunkOk", spec := "fnExactFrmChunkOk", unfollowed := true, recurses := true, apart := false, narrowed := true }
def FnExactFrmChunkOkUptoSaid : Prop := fnExactFrmChunkOkUptoRow.holds Try.pinned (OpenSpec.upto fnExactFrmChunkOkSpec)

/-- 'laws.FnExactDatPush', WHERE WHAT IT READS IS OF BULK AT MOST 1048576: true; the input reads as it did. -/
def fnExactDatPushUptoRow : OpenClaim := { program := "ytbceomdamejpeaa", sum := "a580e164159bdda1a585c05a0ef6330f90b24ad64bb51fa2c546569d5f237534", func := "loop.example/trunk/laws.FnExactDatPush", spec := "fnExactDatPush", unfollowed := true, recurses := true, apart := false, narrowed := true }
def FnExactDatPushUptoSaid : Prop := fnExactDatPushUptoRow.holds Try.pinned (OpenSpec.upto fnExactDatPushSpec)

end Rows
end Go.Proofs.Ytbceomdamejpeaa
