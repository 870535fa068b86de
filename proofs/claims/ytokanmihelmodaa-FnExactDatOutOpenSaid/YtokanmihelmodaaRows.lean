/-
  No cell of these rows narrows 'for every input' (looked for: loops, veiled, ifaces, maps, wideKeys, modest, calm, conditions, laid).
  DERIVED. THE GIVEN ROWS OF THIS SEAT. 12 by the template 'for every input the law returns true; each argument reads behind the call as it read before'; 0 by the template 'total and deterministic' (their statements: YtokanmihelmodaaTotals.lean).
  GIVEN WITH THE SEED: the statements are not yours to turn. If you find one false, say at which input.
  Laid BY PROGRAM, IN A SANDBOX (cutbox-rows.mjs): the forced cells as the released guide's own fill.sh prints them over the translation ff8ea7601488d82b… (all of the seat's roots in one cut). By AI agents, Wed Nov 11 2026. No macro, syntax, notation, axiom, sorry.
-/
import Derived.Test.YtokanmihelmodaaChecked
import GoSem.Claim
import GoSem.ClaimJoined
import GoSem.ClaimMapViews
import Derived.JoinedTies
import Derived.KernelRfl
namespace Go.Proofs.Ytokanmihelmodaa
/- THE CELL 'sum', in the pinned program and in every row, IS THE sha256 OF THE DUMP (.gsa) THAT YtokanmihelmodaaProg.lean LOADS. Nothing in Lean hashes anything: it is a label: what it is worth is what the hold of that sum in a sandbox is worth. -/
noncomputable def Try.pinned : Pinned := { name := "ytokanmihelmodaa", sum := "ff8ea7601488d82b32c4c72552e034a4cb86b4eb40f54312844fcc2029bf7930", checked := Try.checked }
namespace Rows
def none {H : Type} : Left H := { results := [], args := [] }

/-- 'laws.FnExactPthOk': WHATEVER THE INPUT: true; the input reads as it did. -/
def fnExactPthOkSpec : ChangeSpec := { name := "fnExactPthOk", fn := fun _ => fun
  | [d] => { results := [.lit (.bool true)], args := [d] }
  | _ => none }
def fnExactPthOkRow : OpenClaim := { program := "ytokanmihelmodaa", sum := "ff8ea7601488d82b32c4c72552e034a4cb86b4eb40f54312844fcc2029bf7930", func := "loop.example/trunk/laws.FnExactPthOk", spec := "fnExactPthOk", apart := false }
def FnExactPthOkSaid : Prop := fnExactPthOkRow.holds Try.pinned (OpenSpec.ofChange fnExactPthOkSpec)

/-- ITS FALSE NEIGHBOUR: 'it returns false'. Refute it at one input. -/
def fnExactPthOkWrong : ChangeSpec := { name := "fnExactPthOk", fn := fun _ => fun
  | [d] => { results := [.lit (.bool false)], args := [d] }
  | _ => none }
def FnExactPthOkWrongFalsely : Prop := fnExactPthOkRow.holds Try.pinned (OpenSpec.ofChange fnExactPthOkWrong)

/-- 'laws.FnExactPthOpen': WHATEVER THE INPUT: true; the input reads as it did. -/
def fnExactPthOpenSpec : ChangeSpec := { name := "fnExactPthOpen", fn := fun _ => fun
  | [d] => { results := [.lit (.bool true)], args := [d] }
  | _ => none }
def fnExactPthOpenRow : OpenClaim := { program := "ytokanmihelmodaa", sum := "ff8ea7601488d82b32c4c72552e034a4cb86b4eb40f54312844fcc2029bf7930", func := "loop.example/trunk/laws.FnExactPthOpen", spec := "fnExactPthOpen", apart := false }
def FnExactPthOpenSaid : Prop := fnExactPthOpenRow.holds Try.pinned (OpenSpec.ofChange fnExactPthOpenSpec)

/-- ITS FALSE NEIGHBOUR: 'it returns false'. Refute it at one input. -/
def fnExactPthOpenWrong : ChangeSpec := { name := "fnExactPthOpen", fn := fun _ => fun
  | [d] => { results := [.lit (.bool false)], args := [d] }
  | _ => none }
def FnExactPthOpenWrongFalsely : Prop := fnExactPthOpenRow.holds Try.pinned (OpenSpec.ofChange fnExactPthOpenWrong)

/-- 'laws.FnExactPthHeard': WHATEVER THE INPUT: true; the input reads as it did. -/
def fnExactPthHeardSpec : ChangeSpec := { name := "fnExactPthHeard", fn := fun _ => fun
  | [d1, d2] => { results := [.lit (.bool true)], args := [d1, d2] }
  | _ => none }
def fnExactPthHeardRow : OpenClaim := { program := "ytokanmihelmodaa", sum := "ff8ea7601488d82b32c4c72552e034a4cb86b4eb40f54312844fcc2029bf7930", func := "loop.example/trunk/laws.FnExactPthHeard", spec := "fnExactPthHeard", apart := false }
def FnExactPthHeardSaid : Prop := fnExactPthHeardRow.holds Try.pinned (OpenSpec.ofChange fnExactPthHeardSpec)

/-- ITS FALSE NEIGHBOUR: 'it returns false'. Refute it at one input. -/
def fnExactPthHeardWrong : ChangeSpec := { name := "fnExactPthHeard", fn := fun _ => fun
  | [d1, d2] => { results := [.lit (.bool false)], args := [d1, d2] }
  | _ => none }
def FnExactPthHeardWrongFalsely : Prop := fnExactPthHeardRow.holds Try.pinned (OpenSpec.ofChange fnExactPthHeardWrong)

/-- 'laws.FnExactPthLost': WHATEVER THE INPUT: true; the input reads as it did. -/
def fnExactPthLostSpec : ChangeSpec := { name := "fnExactPthLost", fn := fun _ => fun
  | [d] => { results := [.lit (.bool true)], args := [d] }
  | _ => none }
def fnExactPthLostRow : OpenClaim := { program := "ytokanmihelmodaa", sum := "ff8ea7601488d82b32c4c72552e034a4cb86b4eb40f54312844fcc2029bf7930", func := "loop.example/trunk/laws.FnExactPthLost", spec := "fnExactPthLost", apart := false }
def FnExactPthLostSaid : Prop := fnExactPthLostRow.holds Try.pinned (OpenSpec.ofChange fnExactPthLostSpec)

/-- ITS FALSE NEIGHBOUR: 'it returns false'. Refute it at one input. -/
def fnExactPthLostWrong : ChangeSpec := { name := "fnExactPthLost", fn := fun _ => fun
  | [d] => { results := [.lit (.bool false)], args := [d] }
  | _ => none }
def FnExactPthLostWrongFalsely : Prop := fnExactPthLostRow.holds Try.pinned (OpenSpec.ofChange fnExactPthLostWrong)

/-- 'laws.FnExactPthPick': WHATEVER THE INPUT: true; the input reads as it did. -/
def fnExactPthPickSpec : ChangeSpec := { name := "fnExactPthPick", fn := fun _ => fun
  | [d1, d2] => { results := [.lit (.bool true)], args := [d1, d2] }
  | _ => none }
def fnExactPthPickRow : OpenClaim := { program := "ytokanmihelmodaa", sum := "ff8ea7601488d82b32c4c72552e034a4cb86b4eb40f54312844fcc2029bf7930", func := "loop.example/trunk/laws.FnExactPthPick", spec := "fnExactPthPick", unfollowed := true, recurses := true, apart := false }
def FnExactPthPickSaid : Prop := fnExactPthPickRow.holds Try.pinned (OpenSpec.ofChange fnExactPthPickSpec)

/-- ITS FALSE NEIGHBOUR: 'it returns false'. Refute it at one input. -/
def fnExactPthPickWrong : ChangeSpec := { name := "fnExactPthPick", fn := fun _ => fun
  | [d1, d2] => { results := [.lit (.bool false)], args := [d1, d2] }
  | _ => none }
def FnExactPthPickWrongFalsely : Prop := fnExactPthPickRow.holds Try.pinned (OpenSpec.ofChange fnExactPthPickWrong)

/-- 'laws.FnExactDatUnitOk': WHATEVER THE INPUT: true; the input reads as it did. -/
def fnExactDatUnitOkSpec : ChangeSpec := { name := "fnExactDatUnitOk", fn := fun _ => fun
  | [d] => { results := [.lit (.bool true)], args := [d] }
  | _ => none }
def fnExactDatUnitOkRow : OpenClaim := { program := "ytokanmihelmodaa", sum := "ff8ea7601488d82b32c4c72552e034a4cb86b4eb40f54312844fcc2029bf7930", func := "loop.example/trunk/laws.FnExactDatUnitOk", spec := "fnExactDatUnitOk", apart := false }
def FnExactDatUnitOkSaid : Prop := fnExactDatUnitOkRow.holds Try.pinned (OpenSpec.ofChange fnExactDatUnitOkSpec)

/-- ITS FALSE NEIGHBOUR: 'it returns false'. Refute it at one input. -/
def fnExactDatUnitOkWrong : ChangeSpec := { name := "fnExactDatUnitOk", fn := fun _ => fun
  | [d] => { results := [.lit (.bool false)], args := [d] }
  | _ => none }
def FnExactDatUnitOkWrongFalsely : Prop := fnExactDatUnitOkRow.holds Try.pinned (OpenSpec.ofChange fnExactDatUnitOkWrong)

/-- 'laws.FnExactDatOutOk': WHATEVER THE INPUT: true; the input reads as it did. -/
def fnExactDatOutOkSpec : ChangeSpec := { name := "fnExactDatOutOk", fn := fun _ => fun
  | [d] => { results := [.lit (.bool true)], args := [d] }
  | _ => none }
def fnExactDatOutOkRow : OpenClaim := { program := "ytokanmihelmodaa", sum := "ff8ea7601488d82b32c4c72552e034a4cb86b4eb40f54312844fcc2029bf7930", func := "loop.example/trunk/laws.FnExactDatOutOk", spec := "fnExactDatOutOk", unfollowed := true, recurses := true, apart := false }
def FnExactDatOutOkSaid : Prop := fnExactDatOutOkRow.holds Try.pinned (OpenSpec.ofChange fnExactDatOutOkSpec)

/-- ITS FALSE NEIGHBOUR: 'it returns false'. Refute it at one input. -/
def fnExactDatOutOkWrong : ChangeSpec := { name := "fnExactDatOutOk", fn := fun _ => fun
  | [d] => { results := [.lit (.bool false)], args := [d] }
  | _ => none }
def FnExactDatOutOkWrongFalsely : Prop := fnExactDatOutOkRow.holds Try.pinned (OpenSpec.ofChange fnExactDatOutOkWrong)

/-- 'laws.FnExactDatOutOpen': WHATEVER THE INPUT: true; the input reads as it did. -/
def fnExactDatOutOpenSpec : ChangeSpec := { name := "fnExactDatOutOpen", fn := fun _ => fun
  | [d1, d2] => { results := [.lit (.bool true)], args := [d1, d2] }
  | _ => none }
def fnExactDatOutOpenRow : OpenClaim := { program := "ytokanmihelmodaa", sum := "ff8ea7601488d82b32c4c72552e034a4cb86b4eb40f54312844fcc2029bf7930", func := "loop.example/trunk/laws.FnExactDatOutOpen", spec := "fnExactDatOutOpen", apart := false }
def FnExactDatOutOpenSaid : Prop := fnExactDatOutOpenRow.holds Try.pinned (OpenSpec.ofChange fnExactDatOutOpenSpec)

/-- ITS FALSE NEIGHBOUR: 'it returns false'. Refute it at one input. -/
def fnExactDatOutOpenWrong : ChangeSpec := { name := "fnExactDatOutOpen", fn := fun _ => fun
  | [d1, d2] => { results := [.lit (.bool false)], args := [d1, d2] }
  | _ => none }
def FnExactDatOutOpenWrongFalsely : Prop := fnExactDatOutOpenRow.holds Try.pinned (OpenSpec.ofChange fnExactDatOutOpenWrong)

/-- 'laws.FnExactDatPush': WHATEVER THE INPUT: true; the input reads as it did. -/
def fnExactDatPushSpec : ChangeSpec := { name := "fnExactDatPush", fn := fun _ => fun
  | [d1, d2] => { results := [.lit (.bool true)], args := [d1, d2] }
  | _ => none }
def fnExactDatPushRow : OpenClaim := { program := "ytokanmihelmodaa", sum := "ff8ea7601488d82b32c4c72552e034a4cb86b4eb40f54312844fcc2029bf7930", func := "loop.example/trunk/laws.FnExactDatPush", spec := "fnExactDatPush", unfollowed := true, recurses := true, apart := false }
def FnExactDatPushSaid : Prop := fnExactDatPushRow.holds Try.pinned (OpenSpec.ofChange fnExactDatPushSpec)

/-- ITS FALSE NEIGHBOUR: 'it returns false'. Refute it at one input. -/
def fnExactDatPushWrong : ChangeSpec := { name := "fnExactDatPush", fn := fun _ => fun
  | [d1, d2] => { results := [.lit (.bool false)], args := [d1, d2] }
  | _ => none }
def FnExactDatPushWrongFalsely : Prop := fnExactDatPushRow.holds Try.pinned (OpenSpec.ofChange fnExactDatPushWrong)

/-- 'laws.FnExactDatSend': WHATEVER THE INPUT: true; the input reads as it did. -/
def fnExactDatSendSpec : ChangeSpec := { name := "fnExactDatSend", fn := fun _ => fun
  | [d] => { results := [.lit (.bool true)], args := [d] }
  | _ => none }
def fnExactDatSendRow : OpenClaim := { program := "ytokanmihelmodaa", sum := "ff8ea7601488d82b32c4c72552e034a4cb86b4eb40f54312844fcc2029bf7930", func := "loop.example/trunk/laws.FnExactDatSend", spec := "fnExactDatSend", unfollowed := true, recurses := true, apart := false }
def FnExactDatSendSaid : Prop := fnExactDatSendRow.holds Try.pinned (OpenSpec.ofChange fnExactDatSendSpec)

/-- ITS FALSE NEIGHBOUR: 'it returns false'. Refute it at one input. -/
def fnExactDatSendWrong : ChangeSpec := { name := "fnExactDatSend", fn := fun _ => fun
  | [d] => { results := [.lit (.bool false)], args := [d] }
  | _ => none }
def FnExactDatSendWrongFalsely : Prop := fnExactDatSendRow.holds Try.pinned (OpenSpec.ofChange fnExactDatSendWrong)

/-- 'laws.FnExactDatAgain': WHATEVER THE INPUT: true; the input reads as it did. -/
def fnExactDatAgainSpec : ChangeSpec := { name := "fnExactDatAgain", fn := fun _ => fun
  | [d1, d2] => { results := [.lit (.bool true)], args := [d1, d2] }
  | _ => none }
def fnExactDatAgainRow : OpenClaim := { program := "ytokanmihelmodaa", sum := "ff8ea7601488d82b32c4c72552e034a4cb86b4eb40f54312844fcc2029bf7930", func := "loop.example/trunk/laws.FnExactDatAgain", spec := "fnExactDatAgain", unfollowed := true, recurses := true, apart := false }
def FnExactDatAgainSaid : Prop := fnExactDatAgainRow.holds Try.pinned (OpenSpec.ofChange fnExactDatAgainSpec)

/-- ITS FALSE NEIGHBOUR: 'it returns false'. Refute it at one input. -/
def fnExactDatAgainWrong : ChangeSpec := { name := "fnExactDatAgain", fn := fun _ => fun
  | [d1, d2] => { results := [.lit (.bool false)], args := [d1, d2] }
  | _ => none }
def FnExactDatAgainWrongFalsely : Prop := fnExactDatAgainRow.holds Try.pinned (OpenSpec.ofChange fnExactDatAgainWrong)

/-- 'laws.FnExactDatAcked': WHATEVER THE INPUT: true; the input reads as it did. -/
def fnExactDatAckedSpec : ChangeSpec := { name := "fnExactDatAcked", fn := fun _ => fun
  | [d1, d2, d3] => { results := [.lit (.bool true)], args := [d1, d2, d3] }
  | _ => none }
def fnExactDatAckedRow : OpenClaim := { program := "ytokanmihelmodaa", sum := "ff8ea7601488d82b32c4c72552e034a4cb86b4eb40f54312844fcc2029bf7930", func := "loop.example/trunk/laws.FnExactDatAcked", spec := "fnExactDatAcked", unfollowed := true, recurses := true, apart := false }
def FnExactDatAckedSaid : Prop := fnExactDatAckedRow.holds Try.pinned (OpenSpec.ofChange fnExactDatAckedSpec)

/-- ITS FALSE NEIGHBOUR: 'it returns false'. Refute it at one input. -/
def fnExactDatAckedWrong : ChangeSpec := { name := "fnExactDatAcked", fn := fun _ => fun
  | [d1, d2, d3] => { results := [.lit (.bool false)], args := [d1, d2, d3] }
  | _ => none }
def FnExactDatAckedWrongFalsely : Prop := fnExactDatAckedRow.holds Try.pinned (OpenSpec.ofChange fnExactDatAckedWrong)

/- THE SECOND FORM. 'bulk': how many values and letters a reading holds, each counted each time it is reached (what is shared counts as often as it is met; a slice's spare places count too). A statement '..UptoSaid' is the law's where the arguments, and the package variables that the reading takes, are together of bulk at most 1048576: NARROWER than '..Said'. Prove '..Said' where nothing that the law and all that it calls make is longer than what came in: it says more and counts as full. Else prove '..UptoSaid'. A law counts once. -/
mutual
def uptoBulk {H : Type} : DataW H → Nat
  | .lit (.string bytes) => bytes.length + 1
  | .lit _ => 1
  | .nil => 1
  | .ptr d => uptoBulk d + 1
  | .slice elems spare => uptoBulkAll elems + uptoBulkAll spare + 1
  | .agg parts => uptoBulkAll parts + 1
  | .iface _ d => uptoBulk d + 1
  | .map entries => uptoBulkEntries entries + 1
  | .held _ => 1
def uptoBulkAll {H : Type} : List (DataW H) → Nat
  | [] => 0
  | d :: r => uptoBulk d + uptoBulkAll r
def uptoBulkEntries {H : Type} : List (Lit × DataW H) → Nat
  | [] => 0
  | x :: r => uptoBulkEntry x + uptoBulkEntries r
def uptoBulkEntry {H : Type} : Lit × DataW H → Nat
  | (.string bytes, d) => bytes.length + uptoBulk d + 1
  | (_, d) => uptoBulk d + 1
 end
def uptoSmall : (H : Type) → List (DataW H) → Bool := fun _ ds => decide (uptoBulkAll ds ≤ 1048576)
def OpenSpec.upto (s : _root_.Go.ChangeSpec) : _root_.Go.OpenSpec := { _root_.Go.OpenSpec.ofChange s with cond := some uptoSmall }

/-- 'laws.FnExactPthOk', WHERE WHAT IT READS IS OF BULK AT MOST 1048576: true; the input reads as it did. -/
def fnExactPthOkUptoRow : OpenClaim := { program := "ytokanmihelmodaa", sum := "ff8ea7601488d82b32c4c72552e034a4cb86b4eb40f54312844fcc2029bf7930", func := "loop.example/trunk/laws.FnExactPthOk", spec := "fnExactPthOk", apart := false, narrowed := true }
def FnExactPthOkUptoSaid : Prop := fnExactPthOkUptoRow.holds Try.pinned (OpenSpec.upto fnExactPthOkSpec)

/-- 'laws.FnExactPthOpen', WHERE WHAT IT READS IS OF BULK AT MOST 1048576: true; the input reads as it did. -/
def fnExactPthOpenUptoRow : OpenClaim := { program := "ytokanmihelmodaa", sum := "ff8ea7601488d82b32c4c72552e034a4cb86b4eb40f54312844fcc2029bf7930", func := "loop.example/trunk/laws.FnExactPthOpen", spec := "fnExactPthOpen", apart := false, narrowed := true }
def FnExactPthOpenUptoSaid : Prop := fnExactPthOpenUptoRow.holds Try.pinned (OpenSpec.upto fnExactPthOpenSpec)

/-- 'laws.FnExactPthHeard', WHERE WHAT IT READS IS OF BULK AT MOST 1048576: true; the input reads as it did. -/
def fnExactPthHeardUptoRow : OpenClaim := { program := "ytokanmihelmodaa", sum := "ff8ea7601488d82b32c4c72552e034a4cb86b4eb40f54312844fcc2029bf7930", func := "loop.example/trunk/laws.FnExactPthHeard", spec := "fnExactPthHeard", apart := false, narrowed := true }
def FnExactPthHeardUptoSaid : Prop := fnExactPthHeardUptoRow.holds Try.pinned (OpenSpec.upto fnExactPthHeardSpec)

/-- 'laws.FnExactPthLost', WHERE WHAT IT READS IS OF BULK AT MOST 1048576: true; the input reads as it did. -/
def fnExactPthLostUptoRow : OpenClaim := { program := "ytokanmihelmodaa", sum := "ff8ea7601488d82b32c4c72552e034a4cb86b4eb40f54312844fcc2029bf7930", func := "loop.example/trunk/laws.FnExactPthLost", spec := "fnExactPthLost", apart := false, narrowed := true }
def FnExactPthLostUptoSaid : Prop := fnExactPthLostUptoRow.holds Try.pinned (OpenSpec.upto fnExactPthLostSpec)

/-- 'laws.FnExactPthPick', WHERE WHAT IT READS IS OF BULK AT MOST 1048576: true; the input reads as it did. -/
def fnExactPthPickUptoRow : OpenClaim := { program := "ytokanmihelmodaa", sum := "ff8ea7601488d82b32c4c72552e034a4cb86b4eb40f54312844fcc2029bf7930", func := "loop.example/trunk/laws.FnExactPthPick", spec := "fnExactPthPick", unfollowed := true, recurses := true, apart := false, narrowed := true }
def FnExactPthPickUptoSaid : Prop := fnExactPthPickUptoRow.holds Try.pinned (OpenSpec.upto fnExactPthPickSpec)

/-- 'laws.FnExactDatUnitOk', WHERE WHAT IT READS IS OF BULK AT MOST 1048576: true; the input reads as it did. -/
def fnExactDatUnitOkUptoRow : OpenClaim := { program := "ytokanmihelmodaa", sum := "ff8ea7601488d82b32c4c72552e034a4cb86b4eb40f54312844fcc2029bf7930", func := "loop.example/trunk/laws.FnExactDatUnitOk", spec := "fnExactDatUnitOk", apart := false, narrowed := true }
def FnExactDatUnitOkUptoSaid : Prop := fnExactDatUnitOkUptoRow.holds Try.pinned (OpenSpec.upto fnExactDatUnitOkSpec)

/-- 'laws.FnExactDatOutOk', WHERE WHAT IT READS IS OF BULK AT MOST 1048576: true; the input reads as it did. -/
def fnExactDatOutOkUptoRow : OpenClaim := { program := "ytokanmihelmodaa", sum := "ff8ea7601488d82b32c4c72552e034a4cb86b4eb40f54312844fcc2029bf7930", func := "loop.example/trunk/laws.FnExactDatOutOk", spec := "fnExactDatOutOk", unfollowed := true, recurses := true, apart := false, narrowed := true }
def FnExactDatOutOkUptoSaid : Prop := fnExactDatOutOkUptoRow.holds Try.pinned (OpenSpec.upto fnExactDatOutOkSpec)

/-- 'laws.FnExactDatOutOpen', WHERE WHAT IT READS IS OF BULK AT MOST 1048576: true; the input reads as it did. -/
def fnExactDatOutOpenUptoRow : OpenClaim := { program := "ytokanmihelmodaa", sum := "ff8ea7601488d82b32c4c72552e034a4cb86b4eb40f54312844fcc2029bf7930", func := "loop.example/trunk/laws.FnExactDatOutOpen", spec := "fnExactDatOutOpen", apart := false, narrowed := true }
def FnExactDatOutOpenUptoSaid : Prop := fnExactDatOutOpenUptoRow.holds Try.pinned (OpenSpec.upto fnExactDatOutOpenSpec)

/-- 'laws.FnExactDatPush', WHERE WHAT IT READS IS OF BULK AT MOST 1048576: true; the input reads as it did. -/
def fnExactDatPushUptoRow : OpenClaim := { program := "ytokanmihelmodaa", sum := "ff8ea7601488d82b32c4c72552e034a4cb86b4eb40f54312844fcc2029bf7930", func := "loop.example/trunk/laws.FnExactDatPush", spec := "fnExactDatPush", unfollowed := true, recurses := true, apart := false, narrowed := true }
def FnExactDatPushUptoSaid : Prop := fnExactDatPushUptoRow.holds Try.pinned (OpenSpec.upto fnExactDatPushSpec)

/-- 'laws.FnExactDatSend', WHERE WHAT IT READS IS OF BULK AT MOST 1048576: true; the input reads as it did. -/
def fnExactDatSendUptoRow : OpenClaim := { program := "ytokanmihelmodaa", sum := "ff8ea7601488d82b32c4c72552e034a4cb86b4eb40f54312844fcc2029bf7930", func := "loop.example/trunk/laws.FnExactDatSend", spec := "fnExactDatSend", unfollowed := true, recurses := true, apart := false, narrowed := true }
def FnExactDatSendUptoSaid : Prop := fnExactDatSendUptoRow.holds Try.pinned (OpenSpec.upto fnExactDatSendSpec)

/-- 'laws.FnExactDatAgain', WHERE WHAT IT READS IS OF BULK AT MOST 1048576: true; the input reads as it did. -/
def fnExactDatAgainUptoRow : OpenClaim := { program := "ytokanmihelmodaa", sum := "ff8ea7601488d82b32c4c72552e034a4cb86b4eb40f54312844fcc2029bf7930", func := "loop.example/trunk/laws.FnExactDatAgain", spec := "fnExactDatAgain", unfollowed := true, recurses := true, apart := false, narrowed := true }
def FnExactDatAgainUptoSaid : Prop := fnExactDatAgainUptoRow.holds Try.pinned (OpenSpec.upto fnExactDatAgainSpec)

/-- 'laws.FnExactDatAcked', WHERE WHAT IT READS IS OF BULK AT MOST 1048576: true; the input reads as it did. -/
def fnExactDatAckedUptoRow : OpenClaim := { program := "ytokanmihelmodaa", sum := "ff8ea7601488d82b32c4c72552e034a4cb86b4eb40f54312844fcc2029bf7930", func := "loop.example/trunk/laws.FnExactDatAcked", spec := "fnExactDatAcked", unfollowed := true, recurses := true, apart := false, narrowed := true }
def FnExactDatAckedUptoSaid : Prop := fnExactDatAckedUptoRow.holds Try.pinned (OpenSpec.upto fnExactDatAckedSpec)

end Rows
end Go.Proofs.Ytokanmihelmodaa
