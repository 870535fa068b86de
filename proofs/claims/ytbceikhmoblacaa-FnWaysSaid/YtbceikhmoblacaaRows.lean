/-
  No cell of these rows narrows 'for every input' (looked for: loops, veiled, ifaces, maps, wideKeys, modest, calm, conditions, laid).
  DERIVED. THE GIVEN ROWS OF THIS SEAT. 11 by the template 'for every input the law returns true; each argument reads behind the call as it read before'; 0 by the template 'total and deterministic' (their statements: YtbceikhmoblacaaTotals.lean).
  GIVEN WITH THE SEED: the statements are not yours to turn. If you find one false, say at which input.
  Laid BY PROGRAM, IN A SANDBOX (cutbox-rows.mjs): the forced cells as the released guide's own fill.sh prints them over the translation cb713a2c8ebef500… (all of the seat's roots in one cut). By AI agents, Wed Nov 11 2026. No macro, syntax, notation, axiom, sorry.
-/
import Derived.Test.YtbceikhmoblacaaChecked
import GoSem.Claim
import GoSem.ClaimJoined
import GoSem.ClaimMapViews
import Derived.JoinedTies
import Derived.KernelRfl
namespace Go.Proofs.Ytbceikhmoblacaa
/- THE CELL 'sum', in the pinned program and in every row, IS THE sha256 OF THE DUMP (.gsa) THAT YtbceikhmoblacaaProg.lean LOADS. Nothing in Lean hashes anything: it is a label: what it is worth is what the hold of that sum in a sandbox is worth. -/
noncomputable def Try.pinned : Pinned := { name := "ytbceikhmoblacaa", sum := "cb713a2c8ebef50009f429beaa75100ade66d8220ede3c330b50140ff50bbeb2", checked := Try.checked }
namespace Rows
def none {H : Type} : Left H := { results := [], args := [] }

/-- 'laws.FnExactDeskWords': WHATEVER THE INPUT: true; the input reads as it did. -/
def fnExactDeskWordsSpec : ChangeSpec := { name := "fnExactDeskWords", fn := fun _ => fun
  | [d] => { results := [.lit (.bool true)], args := [d] }
  | _ => none }
def fnExactDeskWordsRow : OpenClaim := { program := "ytbceikhmoblacaa", sum := "cb713a2c8ebef50009f429beaa75100ade66d8220ede3c330b50140ff50bbeb2", func := "loop.example/trunk/laws.FnExactDeskWords", spec := "fnExactDeskWords", inPlace := ["internal/bytealg.IndexByteString", "internal/bytealg.IndexString"], unfollowed := true, recurses := true, named := ["internal/bytealg.MaxLen"], apart := false }
def FnExactDeskWordsSaid : Prop := fnExactDeskWordsRow.holds Try.pinned (OpenSpec.ofChange fnExactDeskWordsSpec)

/-- ITS FALSE NEIGHBOUR: 'it returns false'. Refute it at one input. -/
def fnExactDeskWordsWrong : ChangeSpec := { name := "fnExactDeskWords", fn := fun _ => fun
  | [d] => { results := [.lit (.bool false)], args := [d] }
  | _ => none }
def FnExactDeskWordsWrongFalsely : Prop := fnExactDeskWordsRow.holds Try.pinned (OpenSpec.ofChange fnExactDeskWordsWrong)

/-- 'laws.FnExactPthPick': WHATEVER THE INPUT: true; the input reads as it did. -/
def fnExactPthPickSpec : ChangeSpec := { name := "fnExactPthPick", fn := fun _ => fun
  | [d1, d2] => { results := [.lit (.bool true)], args := [d1, d2] }
  | _ => none }
def fnExactPthPickRow : OpenClaim := { program := "ytbceikhmoblacaa", sum := "cb713a2c8ebef50009f429beaa75100ade66d8220ede3c330b50140ff50bbeb2", func := "loop.example/trunk/laws.FnExactPthPick", spec := "fnExactPthPick", unfollowed := true, recurses := true, apart := false }
def FnExactPthPickSaid : Prop := fnExactPthPickRow.holds Try.pinned (OpenSpec.ofChange fnExactPthPickSpec)

/-- ITS FALSE NEIGHBOUR: 'it returns false'. Refute it at one input. -/
def fnExactPthPickWrong : ChangeSpec := { name := "fnExactPthPick", fn := fun _ => fun
  | [d1, d2] => { results := [.lit (.bool false)], args := [d1, d2] }
  | _ => none }
def FnExactPthPickWrongFalsely : Prop := fnExactPthPickRow.holds Try.pinned (OpenSpec.ofChange fnExactPthPickWrong)

/-- 'laws.FnKey': WHATEVER THE INPUT: true; the input reads as it did. -/
def fnKeySpec : ChangeSpec := { name := "fnKey", fn := fun _ => fun
  | [d1, d2] => { results := [.lit (.bool true)], args := [d1, d2] }
  | _ => none }
def fnKeyRow : OpenClaim := { program := "ytbceikhmoblacaa", sum := "cb713a2c8ebef50009f429beaa75100ade66d8220ede3c330b50140ff50bbeb2", func := "loop.example/trunk/laws.FnKey", spec := "fnKey", unfollowed := true, recurses := true, apart := false }
def FnKeySaid : Prop := fnKeyRow.holds Try.pinned (OpenSpec.ofChange fnKeySpec)

/-- ITS FALSE NEIGHBOUR: 'it returns false'. Refute it at one input. -/
def fnKeyWrong : ChangeSpec := { name := "fnKey", fn := fun _ => fun
  | [d1, d2] => { results := [.lit (.bool false)], args := [d1, d2] }
  | _ => none }
def FnKeyWrongFalsely : Prop := fnKeyRow.holds Try.pinned (OpenSpec.ofChange fnKeyWrong)

/-- 'laws.FnExactAscBake': WHATEVER THE INPUT: true; the input reads as it did. -/
def fnExactAscBakeSpec : ChangeSpec := { name := "fnExactAscBake", fn := fun _ => fun
  | [d1, d2] => { results := [.lit (.bool true)], args := [d1, d2] }
  | _ => none }
def fnExactAscBakeRow : OpenClaim := { program := "ytbceikhmoblacaa", sum := "cb713a2c8ebef50009f429beaa75100ade66d8220ede3c330b50140ff50bbeb2", func := "loop.example/trunk/laws.FnExactAscBake", spec := "fnExactAscBake", apart := false }
def FnExactAscBakeSaid : Prop := fnExactAscBakeRow.holds Try.pinned (OpenSpec.ofChange fnExactAscBakeSpec)

/-- ITS FALSE NEIGHBOUR: 'it returns false'. Refute it at one input. -/
def fnExactAscBakeWrong : ChangeSpec := { name := "fnExactAscBake", fn := fun _ => fun
  | [d1, d2] => { results := [.lit (.bool false)], args := [d1, d2] }
  | _ => none }
def FnExactAscBakeWrongFalsely : Prop := fnExactAscBakeRow.holds Try.pinned (OpenSpec.ofChange fnExactAscBakeWrong)

/-- 'laws.FnExactAspOpen': WHATEVER THE INPUT: true; the input reads as it did. -/
def fnExactAspOpenSpec : ChangeSpec := { name := "fnExactAspOpen", fn := fun _ => fun
  | [d1, d2] => { results := [.lit (.bool true)], args := [d1, d2] }
  | _ => none }
def fnExactAspOpenRow : OpenClaim := { program := "ytbceikhmoblacaa", sum := "cb713a2c8ebef50009f429beaa75100ade66d8220ede3c330b50140ff50bbeb2", func := "loop.example/trunk/laws.FnExactAspOpen", spec := "fnExactAspOpen", apart := false }
def FnExactAspOpenSaid : Prop := fnExactAspOpenRow.holds Try.pinned (OpenSpec.ofChange fnExactAspOpenSpec)

/-- ITS FALSE NEIGHBOUR: 'it returns false'. Refute it at one input. -/
def fnExactAspOpenWrong : ChangeSpec := { name := "fnExactAspOpen", fn := fun _ => fun
  | [d1, d2] => { results := [.lit (.bool false)], args := [d1, d2] }
  | _ => none }
def FnExactAspOpenWrongFalsely : Prop := fnExactAspOpenRow.holds Try.pinned (OpenSpec.ofChange fnExactAspOpenWrong)

/-- 'laws.FnExactAscTaste': WHATEVER THE INPUT: true; the input reads as it did. -/
def fnExactAscTasteSpec : ChangeSpec := { name := "fnExactAscTaste", fn := fun _ => fun
  | [d1, d2, d3, d4, d5] => { results := [.lit (.bool true)], args := [d1, d2, d3, d4, d5] }
  | _ => none }
def fnExactAscTasteRow : OpenClaim := { program := "ytbceikhmoblacaa", sum := "cb713a2c8ebef50009f429beaa75100ade66d8220ede3c330b50140ff50bbeb2", func := "loop.example/trunk/laws.FnExactAscTaste", spec := "fnExactAscTaste", apart := false }
def FnExactAscTasteSaid : Prop := fnExactAscTasteRow.holds Try.pinned (OpenSpec.ofChange fnExactAscTasteSpec)

/-- ITS FALSE NEIGHBOUR: 'it returns false'. Refute it at one input. -/
def fnExactAscTasteWrong : ChangeSpec := { name := "fnExactAscTaste", fn := fun _ => fun
  | [d1, d2, d3, d4, d5] => { results := [.lit (.bool false)], args := [d1, d2, d3, d4, d5] }
  | _ => none }
def FnExactAscTasteWrongFalsely : Prop := fnExactAscTasteRow.holds Try.pinned (OpenSpec.ofChange fnExactAscTasteWrong)

/-- 'laws.FnWays': WHATEVER THE INPUT: true; the input reads as it did. -/
def fnWaysSpec : ChangeSpec := { name := "fnWays", fn := fun _ => fun
  | [d1, d2] => { results := [.lit (.bool true)], args := [d1, d2] }
  | _ => none }
def fnWaysRow : OpenClaim := { program := "ytbceikhmoblacaa", sum := "cb713a2c8ebef50009f429beaa75100ade66d8220ede3c330b50140ff50bbeb2", func := "loop.example/trunk/laws.FnWays", spec := "fnWays", unfollowed := true, recurses := true, apart := false }
def FnWaysSaid : Prop := fnWaysRow.holds Try.pinned (OpenSpec.ofChange fnWaysSpec)

/-- ITS FALSE NEIGHBOUR: 'it returns false'. Refute it at one input. -/
def fnWaysWrong : ChangeSpec := { name := "fnWays", fn := fun _ => fun
  | [d1, d2] => { results := [.lit (.bool false)], args := [d1, d2] }
  | _ => none }
def FnWaysWrongFalsely : Prop := fnWaysRow.holds Try.pinned (OpenSpec.ofChange fnWaysWrong)

/-- 'laws.FnExactMsgOk': WHATEVER THE INPUT: true; the input reads as it did. -/
def fnExactMsgOkSpec : ChangeSpec := { name := "fnExactMsgOk", fn := fun _ => fun
  | [d] => { results := [.lit (.bool true)], args := [d] }
  | _ => none }
def fnExactMsgOkRow : OpenClaim := { program := "ytbceikhmoblacaa", sum := "cb713a2c8ebef50009f429beaa75100ade66d8220ede3c330b50140ff50bbeb2", func := "loop.example/trunk/laws.FnExactMsgOk", spec := "fnExactMsgOk", unfollowed := true, recurses := true, apart := false }
def FnExactMsgOkSaid : Prop := fnExactMsgOkRow.holds Try.pinned (OpenSpec.ofChange fnExactMsgOkSpec)

/-- ITS FALSE NEIGHBOUR: 'it returns false'. Refute it at one input. -/
def fnExactMsgOkWrong : ChangeSpec := { name := "fnExactMsgOk", fn := fun _ => fun
  | [d] => { results := [.lit (.bool false)], args := [d] }
  | _ => none }
def FnExactMsgOkWrongFalsely : Prop := fnExactMsgOkRow.holds Try.pinned (OpenSpec.ofChange fnExactMsgOkWrong)

/-- 'laws.FnExactAspGone': WHATEVER THE INPUT: true; the input reads as it did. -/
def fnExactAspGoneSpec : ChangeSpec := { name := "fnExactAspGone", fn := fun _ => fun
  | [d1, d2] => { results := [.lit (.bool true)], args := [d1, d2] }
  | _ => none }
def fnExactAspGoneRow : OpenClaim := { program := "ytbceikhmoblacaa", sum := "cb713a2c8ebef50009f429beaa75100ade66d8220ede3c330b50140ff50bbeb2", func := "loop.example/trunk/laws.FnExactAspGone", spec := "fnExactAspGone", unfollowed := true, recurses := true, apart := false }
def FnExactAspGoneSaid : Prop := fnExactAspGoneRow.holds Try.pinned (OpenSpec.ofChange fnExactAspGoneSpec)

/-- ITS FALSE NEIGHBOUR: 'it returns false'. Refute it at one input. -/
def fnExactAspGoneWrong : ChangeSpec := { name := "fnExactAspGone", fn := fun _ => fun
  | [d1, d2] => { results := [.lit (.bool false)], args := [d1, d2] }
  | _ => none }
def FnExactAspGoneWrongFalsely : Prop := fnExactAspGoneRow.holds Try.pinned (OpenSpec.ofChange fnExactAspGoneWrong)

/-- 'laws.FnExactAspRise': WHATEVER THE INPUT: true; the input reads as it did. -/
def fnExactAspRiseSpec : ChangeSpec := { name := "fnExactAspRise", fn := fun _ => fun
  | [d1, d2] => { results := [.lit (.bool true)], args := [d1, d2] }
  | _ => none }
def fnExactAspRiseRow : OpenClaim := { program := "ytbceikhmoblacaa", sum := "cb713a2c8ebef50009f429beaa75100ade66d8220ede3c330b50140ff50bbeb2", func := "loop.example/trunk/laws.FnExactAspRise", spec := "fnExactAspRise", unfollowed := true, recurses := true, apart := false }
def FnExactAspRiseSaid : Prop := fnExactAspRiseRow.holds Try.pinned (OpenSpec.ofChange fnExactAspRiseSpec)

/-- ITS FALSE NEIGHBOUR: 'it returns false'. Refute it at one input. -/
def fnExactAspRiseWrong : ChangeSpec := { name := "fnExactAspRise", fn := fun _ => fun
  | [d1, d2] => { results := [.lit (.bool false)], args := [d1, d2] }
  | _ => none }
def FnExactAspRiseWrongFalsely : Prop := fnExactAspRiseRow.holds Try.pinned (OpenSpec.ofChange fnExactAspRiseWrong)

/-- 'laws.FnExactDatPipeOpen': WHATEVER THE INPUT: true; the input reads as it did. -/
def fnExactDatPipeOpenSpec : ChangeSpec := { name := "fnExactDatPipeOpen", fn := fun _ => fun
  | [d1, d2] => { results := [.lit (.bool true)], args := [d1, d2] }
  | _ => none }
def fnExactDatPipeOpenRow : OpenClaim := { program := "ytbceikhmoblacaa", sum := "cb713a2c8ebef50009f429beaa75100ade66d8220ede3c330b50140ff50bbeb2", func := "loop.example/trunk/laws.FnExactDatPipeOpen", spec := "fnExactDatPipeOpen", apart := false }
def FnExactDatPipeOpenSaid : Prop := fnExactDatPipeOpenRow.holds Try.pinned (OpenSpec.ofChange fnExactDatPipeOpenSpec)

/-- ITS FALSE NEIGHBOUR: 'it returns false'. Refute it at one input. -/
def fnExactDatPipeOpenWrong : ChangeSpec := { name := "fnExactDatPipeOpen", fn := fun _ => fun
  | [d1, d2] => { results := [.lit (.bool false)], args := [d1, d2] }
  | _ => none }
def FnExactDatPipeOpenWrongFalsely : Prop := fnExactDatPipeOpenRow.holds Try.pinned (OpenSpec.ofChange fnExactDatPipeOpenWrong)

/- THE SECOND FORM. 'bulk': how many values and letters a reading holds, each counted each time it is reached (what is shared counts as often as it is met; a slice's spare places count too). A statement '..UptoSaid' is the law's where the arguments, and the package variables that the reading takes, are together of bulk at most 1048576: NARROWER than '..Said'. Prove '..Said' where nothing that the law and all that it calls make is longer than what came in: it says more and counts as full. Else prove '..UptoSaid'. A law counts once. -/
mutual
def uptoBulk {H : Type} : DataW H → Nat
  | .lit (.string bytes) => bytes.length + 1
  | .lit _ => 1
  | .nil => 1
  | .ptr d => uptoBulk d + 1
  | .slice elems spare => uptoBulkAll elems + uptoBulkAll spare + 1
  | .agg parts => uptoBulkAll parts + 1
  | .iface _ d => uptoBulk d + 1
  | .map entries => uptoBulkEntries entries + 1
  | .held _ => 1
def uptoBulkAll {H : Type} : List (DataW H) → Nat
  | [] => 0
  | d :: r => uptoBulk d + uptoBulkAll r
def uptoBulkEntries {H : Type} : List (Lit × DataW H) → Nat
  | [] => 0
  | x :: r => uptoBulkEntry x + uptoBulkEntries r
def uptoBulkEntry {H : Type} : Lit × DataW H → Nat
  | (.string bytes, d) => bytes.length + uptoBulk d + 1
  | (_, d) => uptoBulk d + 1
 end
def uptoSmall : (H : Type) → List (DataW H) → Bool := fun _ ds => decide (uptoBulkAll ds ≤ 1048576)
def OpenSpec.upto (s : _root_.Go.ChangeSpec) : _root_.Go.OpenSpec := { _root_.Go.OpenSpec.ofChange s with cond := some uptoSmall }

/-- 'laws.FnExactDeskWords', WHERE WHAT IT READS IS OF BULK AT MOST 1048576: true; the input reads as it did. -/
def fnExactDeskWordsUptoRow : OpenClaim := { program := "ytbceikhmoblacaa", sum := "cb713a2c8ebef50009f429beaa75100ade66d8220ede3c330b50140ff50bbeb2", func := "loop.example/trunk/laws.FnExactDeskWords", spec := "fnExactDeskWords", inPlace := ["internal/bytealg.IndexByteString", "internal/bytealg.IndexString"], unfollowed := true, recurses := true, named := ["internal/bytealg.MaxLen"], apart := false, narrowed := true }
def FnExactDeskWordsUptoSaid : Prop := fnExactDeskWordsUptoRow.holds Try.pinned (OpenSpec.upto fnExactDeskWordsSpec)

/-- 'laws.FnExactPthPick', WHERE WHAT IT READS IS OF BULK AT MOST 1048576: true; the input reads as it did. -/
def fnExactPthPickUptoRow : OpenClaim := { program := "ytbceikhmoblacaa", sum := "cb713a2c8ebef50009f429beaa75100ade66d8220ede3c330b50140ff50bbeb2", func := "loop.example/trunk/laws.FnExactPthPick", spec := "fnExactPthPick", unfollowed := true, recurses := true, apart := false, narrowed := true }
def FnExactPthPickUptoSaid : Prop := fnExactPthPickUptoRow.holds Try.pinned (OpenSpec.upto fnExactPthPickSpec)

/-- 'laws.FnKey', WHERE WHAT IT READS IS OF BULK AT MOST 1048576: true; the input reads as it did. -/
def fnKeyUptoRow : OpenClaim := { program := "ytbceikhmoblacaa", sum := "cb713a2c8ebef50009f429beaa75100ade66d8220ede3c330b50140ff50bbeb2", func := "loop.example/trunk/laws.FnKey", spec := "fnKey", unfollowed := true, recurses := true, apart := false, narrowed := true }
def FnKeyUptoSaid : Prop := fnKeyUptoRow.holds Try.pinned (OpenSpec.upto fnKeySpec)

/-- 'laws.FnExactAscBake', WHERE WHAT IT READS IS OF BULK AT MOST 1048576: true; the input reads as it did. -/
def fnExactAscBakeUptoRow : OpenClaim := { program := "ytbceikhmoblacaa", sum := "cb713a2c8ebef50009f429beaa75100ade66d8220ede3c330b50140ff50bbeb2", func := "loop.example/trunk/laws.FnExactAscBake", spec := "fnExactAscBake", apart := false, narrowed := true }
def FnExactAscBakeUptoSaid : Prop := fnExactAscBakeUptoRow.holds Try.pinned (OpenSpec.upto fnExactAscBakeSpec)

/-- 'laws.FnExactAspOpen', WHERE WHAT IT READS IS OF BULK AT MOST 1048576: true; the input reads as it did. -/
def fnExactAspOpenUptoRow : OpenClaim := { program := "ytbceikhmoblacaa", sum := "cb713a2c8ebef50009f429beaa75100ade66d8220ede3c330b50140ff50bbeb2", func := "loop.example/trunk/laws.FnExactAspOpen", spec := "fnExactAspOpen", apart := false, narrowed := true }
def FnExactAspOpenUptoSaid : Prop := fnExactAspOpenUptoRow.holds Try.pinned (OpenSpec.upto fnExactAspOpenSpec)

/-- 'laws.FnExactAscTaste', WHERE WHAT IT READS IS OF BULK AT MOST 1048576: true; the input reads as it did. -/
def fnExactAscTasteUptoRow : OpenClaim := { program := "ytbceikhmoblacaa", sum := "cb713a2c8ebef50009f429beaa75100ade66d8220ede3c330b50140ff50bbeb2", func := "loop.example/trunk/laws.FnExactAscTaste", spec := "fnExactAscTaste", apart := false, narrowed := true }
def FnExactAscTasteUptoSaid : Prop := fnExactAscTasteUptoRow.holds Try.pinned (OpenSpec.upto fnExactAscTasteSpec)

/-- 'laws.FnWays', WHERE WHAT IT READS IS OF BULK AT MOST 1048576: true; the input reads as it did. -/
def fnWaysUptoRow : OpenClaim := { program := "ytbceikhmoblacaa", sum := "cb713a2c8ebef50009f429beaa75100ade66d8220ede3c330b50140ff50bbeb2", func := "loop.example/trunk/laws.FnWays", spec := "fnWays", unfollowed := true, recurses := true, apart := false, narrowed := true }
def FnWaysUptoSaid : Prop := fnWaysUptoRow.holds Try.pinned (OpenSpec.upto fnWaysSpec)

/-- 'laws.FnExactMsgOk', WHERE WHAT IT READS IS OF BULK AT MOST 1048576: true; the input reads as it did. -/
def fnExactMsgOkUptoRow : OpenClaim := { program := "ytbceikhmoblacaa", sum := "cb713a2c8ebef50009f429beaa75100ade66d8220ede3c330b50140ff50bbeb2", func := "loop.example/trunk/laws.FnExactMsgOk", spec := "fnExactMsgOk", unfollowed := true, recurses := true, apart := false, narrowed := true }
def FnExactMsgOkUptoSaid : Prop := fnExactMsgOkUptoRow.holds Try.pinned (OpenSpec.upto fnExactMsgOkSpec)

/-- 'laws.FnExactAspGone', WHERE WHAT IT READS IS OF BULK AT MOST 1048576: true; the input reads as it did. -/
def fnExactAspGoneUptoRow : OpenClaim := { program := "ytbceikhmoblacaa", sum := "cb713a2c8ebef50009f429beaa75100ade66d8220ede3c330b50140ff50bbeb2", func := "loop.example/trunk/laws.FnExactAspGone", spec := "fnExactAspGone", unfollowed := true, recurses := true, apart := false, narrowed := true }
def FnExactAspGoneUptoSaid : Prop := fnExactAspGoneUptoRow.holds Try.pinned (OpenSpec.upto fnExactAspGoneSpec)

/-- 'laws.FnExactAspRise', WHERE WHAT IT READS IS OF BULK AT MOST 1048576: true; the input reads as it did. -/
def fnExactAspRiseUptoRow : OpenClaim := { program := "ytbceikhmoblacaa", sum := "cb713a2c8ebef50009f429beaa75100ade66d8220ede3c330b50140ff50bbeb2", func := "loop.example/trunk/laws.FnExactAspRise", spec := "fnExactAspRise", unfollowed := true, recurses := true, apart := false, narrowed := true }
def FnExactAspRiseUptoSaid : Prop := fnExactAspRiseUptoRow.holds Try.pinned (OpenSpec.upto fnExactAspRiseSpec)

/-- 'laws.FnExactDatPipeOpen', WHERE WHAT IT READS IS OF BULK AT MOST 1048576: true; the input reads as it did. -/
def fnExactDatPipeOpenUptoRow : OpenClaim := { program := "ytbceikhmoblacaa", sum := "cb713a2c8ebef50009f429beaa75100ade66d8220ede3c330b50140ff50bbeb2", func := "loop.example/trunk/laws.FnExactDatPipeOpen", spec := "fnExactDatPipeOpen", apart := false, narrowed := true }
def FnExactDatPipeOpenUptoSaid : Prop := fnExactDatPipeOpenUptoRow.holds Try.pinned (OpenSpec.upto fnExactDatPipeOpenSpec)

end Rows
end Go.Proofs.Ytbceikhmoblacaa
