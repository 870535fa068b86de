/-
  No cell of these rows narrows 'for every input' (looked for: loops, veiled, ifaces, maps, wideKeys, modest, calm, conditions, laid).
  DERIVED. THE GIVEN ROWS OF THIS SEAT. 12 by the template 'for every input the law returns true; each argument reads behind the call as it read before'; 0 by the template 'total and deterministic' (their statements: YthdjjgbjemaabaaTotals.lean).
  GIVEN WITH THE SEED: the statements are not yours to turn. If you find one false, say at which input.
  Laid BY PROGRAM, IN A SANDBOX (cutbox-rows.mjs): the forced cells as the released guide's own fill.sh prints them over the translation 014b7d28373a08df… (all of the seat's roots in one cut). By AI agents, Wed Nov 11 2026. No macro, syntax, notation, axiom, sorry.
-/
import Derived.Test.YthdjjgbjemaabaaChecked
import GoSem.Claim
import GoSem.ClaimJoined
import GoSem.ClaimMapViews
import Derived.JoinedTies
import Derived.KernelRfl
namespace Go.Proofs.Ythdjjgbjemaabaa
/- THE CELL 'sum', in the pinned program and in every row, IS THE sha256 OF THE DUMP (.gsa) THAT YthdjjgbjemaabaaProg.lean LOADS. Nothing in Lean hashes anything: it is a label: what it is worth is what the hold of that sum in a sandbox is worth. -/
noncomputable def Try.pinned : Pinned := { name := "ythdjjgbjemaabaa", sum := "014b7d28373a08df454ce317d5f536d463f99c8013dd6b1a9178c2379a9f27ce", checked := Try.checked }
namespace Rows
def none {H : Type} : Left H := { results := [], args := [] }

/-- 'laws.FnWays': WHATEVER THE INPUT: true; the input reads as it did. -/
def fnWaysSpec : ChangeSpec := { name := "fnWays", fn := fun _ => fun
  | [d1, d2] => { results := [.lit (.bool true)], args := [d1, d2] }
  | _ => none }
def fnWaysRow : OpenClaim := { program := "ythdjjgbjemaabaa", sum := "014b7d28373a08df454ce317d5f536d463f99c8013dd6b1a9178c2379a9f27ce", func := "loop.example/trunk/laws.FnWays", spec := "fnWays", unfollowed := true, recurses := true, apart := false }
def FnWaysSaid : Prop := fnWaysRow.holds Try.pinned (OpenSpec.ofChange fnWaysSpec)

/-- ITS FALSE NEIGHBOUR: 'it returns false'. Refute it at one input. -/
def fnWaysWrong : ChangeSpec := { name := "fnWays", fn := fun _ => fun
  | [d1, d2] => { results := [.lit (.bool false)], args := [d1, d2] }
  | _ => none }
def FnWaysWrongFalsely : Prop := fnWaysRow.holds Try.pinned (OpenSpec.ofChange fnWaysWrong)

/-- 'laws.FnExactAspOpen': WHATEVER THE INPUT: true; the input reads as it did. -/
def fnExactAspOpenSpec : ChangeSpec := { name := "fnExactAspOpen", fn := fun _ => fun
  | [d1, d2] => { results := [.lit (.bool true)], args := [d1, d2] }
  | _ => none }
def fnExactAspOpenRow : OpenClaim := { program := "ythdjjgbjemaabaa", sum := "014b7d28373a08df454ce317d5f536d463f99c8013dd6b1a9178c2379a9f27ce", func := "loop.example/trunk/laws.FnExactAspOpen", spec := "fnExactAspOpen", apart := false }
def FnExactAspOpenSaid : Prop := fnExactAspOpenRow.holds Try.pinned (OpenSpec.ofChange fnExactAspOpenSpec)

/-- ITS FALSE NEIGHBOUR: 'it returns false'. Refute it at one input. -/
def fnExactAspOpenWrong : ChangeSpec := { name := "fnExactAspOpen", fn := fun _ => fun
  | [d1, d2] => { results := [.lit (.bool false)], args := [d1, d2] }
  | _ => none }
def FnExactAspOpenWrongFalsely : Prop := fnExactAspOpenRow.holds Try.pinned (OpenSpec.ofChange fnExactAspOpenWrong)

/-- 'laws.FnExactAspGone': WHATEVER THE INPUT: true; the input reads as it did. -/
def fnExactAspGoneSpec : ChangeSpec := { name := "fnExactAspGone", fn := fun _ => fun
  | [d1, d2] => { results := [.lit (.bool true)], args := [d1, d2] }
  | _ => none }
def fnExactAspGoneRow : OpenClaim := { program := "ythdjjgbjemaabaa", sum := "014b7d28373a08df454ce317d5f536d463f99c8013dd6b1a9178c2379a9f27ce", func := "loop.example/trunk/laws.FnExactAspGone", spec := "fnExactAspGone", unfollowed := true, recurses := true, apart := false }
def FnExactAspGoneSaid : Prop := fnExactAspGoneRow.holds Try.pinned (OpenSpec.ofChange fnExactAspGoneSpec)

/-- ITS FALSE NEIGHBOUR: 'it returns false'. Refute it at one input. -/
def fnExactAspGoneWrong : ChangeSpec := { name := "fnExactAspGone", fn := fun _ => fun
  | [d1, d2] => { results := [.lit (.bool false)], args := [d1, d2] }
  | _ => none }
def FnExactAspGoneWrongFalsely : Prop := fnExactAspGoneRow.holds Try.pinned (OpenSpec.ofChange fnExactAspGoneWrong)

/-- 'laws.FnExactAspRise': WHATEVER THE INPUT: true; the input reads as it did. -/
def fnExactAspRiseSpec : ChangeSpec := { name := "fnExactAspRise", fn := fun _ => fun
  | [d1, d2] => { results := [.lit (.bool true)], args := [d1, d2] }
  | _ => none }
def fnExactAspRiseRow : OpenClaim := { program := "ythdjjgbjemaabaa", sum := "014b7d28373a08df454ce317d5f536d463f99c8013dd6b1a9178c2379a9f27ce", func := "loop.example/trunk/laws.FnExactAspRise", spec := "fnExactAspRise", unfollowed := true, recurses := true, apart := false }
def FnExactAspRiseSaid : Prop := fnExactAspRiseRow.holds Try.pinned (OpenSpec.ofChange fnExactAspRiseSpec)

/-- ITS FALSE NEIGHBOUR: 'it returns false'. Refute it at one input. -/
def fnExactAspRiseWrong : ChangeSpec := { name := "fnExactAspRise", fn := fun _ => fun
  | [d1, d2] => { results := [.lit (.bool false)], args := [d1, d2] }
  | _ => none }
def FnExactAspRiseWrongFalsely : Prop := fnExactAspRiseRow.holds Try.pinned (OpenSpec.ofChange fnExactAspRiseWrong)

/-- 'laws.FnExactAspWant': WHATEVER THE INPUT: true; the input reads as it did. -/
def fnExactAspWantSpec : ChangeSpec := { name := "fnExactAspWant", fn := fun _ => fun
  | [d1, d2, d3] => { results := [.lit (.bool true)], args := [d1, d2, d3] }
  | _ => none }
def fnExactAspWantRow : OpenClaim := { program := "ythdjjgbjemaabaa", sum := "014b7d28373a08df454ce317d5f536d463f99c8013dd6b1a9178c2379a9f27ce", func := "loop.example/trunk/laws.FnExactAspWant", spec := "fnExactAspWant", unfollowed := true, recurses := true, apart := false }
def FnExactAspWantSaid : Prop := fnExactAspWantRow.holds Try.pinned (OpenSpec.ofChange fnExactAspWantSpec)

/-- ITS FALSE NEIGHBOUR: 'it returns false'. Refute it at one input. -/
def fnExactAspWantWrong : ChangeSpec := { name := "fnExactAspWant", fn := fun _ => fun
  | [d1, d2, d3] => { results := [.lit (.bool false)], args := [d1, d2, d3] }
  | _ => none }
def FnExactAspWantWrongFalsely : Prop := fnExactAspWantRow.holds Try.pinned (OpenSpec.ofChange fnExactAspWantWrong)

/-- 'laws.FnExactAscClose': WHATEVER THE INPUT: true; the input reads as it did. -/
def fnExactAscCloseSpec : ChangeSpec := { name := "fnExactAscClose", fn := fun _ => fun
  | [d1, d2, d3] => { results := [.lit (.bool true)], args := [d1, d2, d3] }
  | _ => none }
def fnExactAscCloseRow : OpenClaim := { program := "ythdjjgbjemaabaa", sum := "014b7d28373a08df454ce317d5f536d463f99c8013dd6b1a9178c2379a9f27ce", func := "loop.example/trunk/laws.FnExactAscClose", spec := "fnExactAscClose", unfollowed := true, recurses := true, apart := false }
def FnExactAscCloseSaid : Prop := fnExactAscCloseRow.holds Try.pinned (OpenSpec.ofChange fnExactAscCloseSpec)

/-- ITS FALSE NEIGHBOUR: 'it returns false'. Refute it at one input. -/
def fnExactAscCloseWrong : ChangeSpec := { name := "fnExactAscClose", fn := fun _ => fun
  | [d1, d2, d3] => { results := [.lit (.bool false)], args := [d1, d2, d3] }
  | _ => none }
def FnExactAscCloseWrongFalsely : Prop := fnExactAscCloseRow.holds Try.pinned (OpenSpec.ofChange fnExactAscCloseWrong)

/-- 'laws.FnExactAscStart': WHATEVER THE INPUT: true; the input reads as it did. -/
def fnExactAscStartSpec : ChangeSpec := { name := "fnExactAscStart", fn := fun _ => fun
  | [d1, d2, d3] => { results := [.lit (.bool true)], args := [d1, d2, d3] }
  | _ => none }
def fnExactAscStartRow : OpenClaim := { program := "ythdjjgbjemaabaa", sum := "014b7d28373a08df454ce317d5f536d463f99c8013dd6b1a9178c2379a9f27ce", func := "loop.example/trunk/laws.FnExactAscStart", spec := "fnExactAscStart", unfollowed := true, recurses := true, apart := false }
def FnExactAscStartSaid : Prop := fnExactAscStartRow.holds Try.pinned (OpenSpec.ofChange fnExactAscStartSpec)

/-- ITS FALSE NEIGHBOUR: 'it returns false'. Refute it at one input. -/
def fnExactAscStartWrong : ChangeSpec := { name := "fnExactAscStart", fn := fun _ => fun
  | [d1, d2, d3] => { results := [.lit (.bool false)], args := [d1, d2, d3] }
  | _ => none }
def FnExactAscStartWrongFalsely : Prop := fnExactAscStartRow.holds Try.pinned (OpenSpec.ofChange fnExactAscStartWrong)

/-- 'laws.FnExactAscTick': WHATEVER THE INPUT: true; the input reads as it did. -/
def fnExactAscTickSpec : ChangeSpec := { name := "fnExactAscTick", fn := fun _ => fun
  | [d] => { results := [.lit (.bool true)], args := [d] }
  | _ => none }
def fnExactAscTickRow : OpenClaim := { program := "ythdjjgbjemaabaa", sum := "014b7d28373a08df454ce317d5f536d463f99c8013dd6b1a9178c2379a9f27ce", func := "loop.example/trunk/laws.FnExactAscTick", spec := "fnExactAscTick", unfollowed := true, recurses := true, apart := false }
def FnExactAscTickSaid : Prop := fnExactAscTickRow.holds Try.pinned (OpenSpec.ofChange fnExactAscTickSpec)

/-- ITS FALSE NEIGHBOUR: 'it returns false'. Refute it at one input. -/
def fnExactAscTickWrong : ChangeSpec := { name := "fnExactAscTick", fn := fun _ => fun
  | [d] => { results := [.lit (.bool false)], args := [d] }
  | _ => none }
def FnExactAscTickWrongFalsely : Prop := fnExactAscTickRow.holds Try.pinned (OpenSpec.ofChange fnExactAscTickWrong)

/-- 'laws.FnExactDatPipeOpen': WHATEVER THE INPUT: true; the input reads as it did. -/
def fnExactDatPipeOpenSpec : ChangeSpec := { name := "fnExactDatPipeOpen", fn := fun _ => fun
  | [d1, d2] => { results := [.lit (.bool true)], args := [d1, d2] }
  | _ => none }
def fnExactDatPipeOpenRow : OpenClaim := { program := "ythdjjgbjemaabaa", sum := "014b7d28373a08df454ce317d5f536d463f99c8013dd6b1a9178c2379a9f27ce", func := "loop.example/trunk/laws.FnExactDatPipeOpen", spec := "fnExactDatPipeOpen", apart := false }
def FnExactDatPipeOpenSaid : Prop := fnExactDatPipeOpenRow.holds Try.pinned (OpenSpec.ofChange fnExactDatPipeOpenSpec)

/-- ITS FALSE NEIGHBOUR: 'it returns false'. Refute it at one input. -/
def fnExactDatPipeOpenWrong : ChangeSpec := { name := "fnExactDatPipeOpen", fn := fun _ => fun
  | [d1, d2] => { results := [.lit (.bool false)], args := [d1, d2] }
  | _ => none }
def FnExactDatPipeOpenWrongFalsely : Prop := fnExactDatPipeOpenRow.holds Try.pinned (OpenSpec.ofChange fnExactDatPipeOpenWrong)

/-- 'laws.FnExactDatPush': WHATEVER THE INPUT: true; the input reads as it did. -/
def fnExactDatPushSpec : ChangeSpec := { name := "fnExactDatPush", fn := fun _ => fun
  | [d1, d2] => { results := [.lit (.bool true)], args := [d1, d2] }
  | _ => none }
def fnExactDatPushRow : OpenClaim := { program := "ythdjjgbjemaabaa", sum := "014b7d28373a08df454ce317d5f536d463f99c8013dd6b1a9178c2379a9f27ce", func := "loop.example/trunk/laws.FnExactDatPush", spec := "fnExactDatPush", unfollowed := true, recurses := true, apart := false }
def FnExactDatPushSaid : Prop := fnExactDatPushRow.holds Try.pinned (OpenSpec.ofChange fnExactDatPushSpec)

/-- ITS FALSE NEIGHBOUR: 'it returns false'. Refute it at one input. -/
def fnExactDatPushWrong : ChangeSpec := { name := "fnExactDatPush", fn := fun _ => fun
  | [d1, d2] => { results := [.lit (.bool false)], args := [d1, d2] }
  | _ => none }
def FnExactDatPushWrongFalsely : Prop := fnExactDatPushRow.holds Try.pinned (OpenSpec.ofChange fnExactDatPushWrong)

/-- 'laws.FnExactDatAck': WHATEVER THE INPUT: true; the input reads as it did. -/
def fnExactDatAckSpec : ChangeSpec := { name := "fnExactDatAck", fn := fun _ => fun
  | [d] => { results := [.lit (.bool true)], args := [d] }
  | _ => none }
def fnExactDatAckRow : OpenClaim := { program := "ythdjjgbjemaabaa", sum := "014b7d28373a08df454ce317d5f536d463f99c8013dd6b1a9178c2379a9f27ce", func := "loop.example/trunk/laws.FnExactDatAck", spec := "fnExactDatAck", unfollowed := true, recurses := true, apart := false }
def FnExactDatAckSaid : Prop := fnExactDatAckRow.holds Try.pinned (OpenSpec.ofChange fnExactDatAckSpec)

/-- ITS FALSE NEIGHBOUR: 'it returns false'. Refute it at one input. -/
def fnExactDatAckWrong : ChangeSpec := { name := "fnExactDatAck", fn := fun _ => fun
  | [d] => { results := [.lit (.bool false)], args := [d] }
  | _ => none }
def FnExactDatAckWrongFalsely : Prop := fnExactDatAckRow.holds Try.pinned (OpenSpec.ofChange fnExactDatAckWrong)

/-- 'laws.FnCookie': WHATEVER THE INPUT: true; the input reads as it did. -/
def fnCookieSpec : ChangeSpec := { name := "fnCookie", fn := fun _ => fun
  | [d1, d2] => { results := [.lit (.bool true)], args := [d1, d2] }
  | _ => none }
def fnCookieRow : OpenClaim := { program := "ythdjjgbjemaabaa", sum := "014b7d28373a08df454ce317d5f536d463f99c8013dd6b1a9178c2379a9f27ce", func := "loop.example/trunk/laws.FnCookie", spec := "fnCookie", apart := false }
def FnCookieSaid : Prop := fnCookieRow.holds Try.pinned (OpenSpec.ofChange fnCookieSpec)

/-- ITS FALSE NEIGHBOUR: 'it returns false'. Refute it at one input. -/
def fnCookieWrong : ChangeSpec := { name := "fnCookie", fn := fun _ => fun
  | [d1, d2] => { results := [.lit (.bool false)], args := [d1, d2] }
  | _ => none }
def FnCookieWrongFalsely : Prop := fnCookieRow.holds Try.pinned (OpenSpec.ofChange fnCookieWrong)

/- THE SECOND FORM. 'bulk': how many values and letters a reading holds, each counted each time it is reached (what is shared counts as often as it is met; a slice's spare places count too). A statement '..UptoSaid' is the law's where the arguments, and the package variables that the reading takes, are together of bulk at most 1048576: NARROWER than '..Said'. Prove '..Said' where nothing that the law and all that it calls make is longer than what came in: it says more and counts as full. Else prove '..UptoSaid'. A law counts once. -/
mutual
def uptoBulk {H : Type} : DataW H → Nat
  | .lit (.string bytes) => bytes.length + 1
  | .lit _ => 1
  | .nil => 1
  | .ptr d => uptoBulk d + 1
  | .slice elems spare => uptoBulkAll elems + uptoBulkAll spare + 1
  | .agg parts => uptoBulkAll parts + 1
  | .iface _ d => uptoBulk d + 1
  | .map entries => uptoBulkEntries entries + 1
  | .held _ => 1
def uptoBulkAll {H : Type} : List (DataW H) → Nat
  | [] => 0
  | d :: r => uptoBulk d + uptoBulkAll r
def uptoBulkEntries {H : Type} : List (Lit × DataW H) → Nat
  | [] => 0
  | x :: r => uptoBulkEntry x + uptoBulkEntries r
def uptoBulkEntry {H : Type} : Lit × DataW H → Nat
  | (.string bytes, d) => bytes.length + uptoBulk d + 1
  | (_, d) => uptoBulk d + 1
 end
def uptoSmall : (H : Type) → List (DataW H) → Bool := fun _ ds => decide (uptoBulkAll ds ≤ 1048576)
def OpenSpec.upto (s : _root_.Go.ChangeSpec) : _root_.Go.OpenSpec := { _root_.Go.OpenSpec.ofChange s with cond := some uptoSmall }

/-- 'laws.FnWays', WHERE WHAT IT READS IS OF BULK AT MOST 1048576: true; the input reads as it did. -/
def fnWaysUptoRow : OpenClaim := { program := "ythdjjgbjemaabaa", sum := "014b7d28373a08df454ce317d5f536d463f99c8013dd6b1a9178c2379a9f27ce", func := "loop.example/trunk/laws.FnWays", spec := "fnWays", unfollowed := true, recurses := true, apart := false, narrowed := true }
def FnWaysUptoSaid : Prop := fnWaysUptoRow.holds Try.pinned (OpenSpec.upto fnWaysSpec)

/-- 'laws.FnExactAspOpen', WHERE WHAT IT READS IS OF BULK AT MOST 1048576: true; the input reads as it did. -/
def fnExactAspOpenUptoRow : OpenClaim := { program := "ythdjjgbjemaabaa", sum := "014b7d28373a08df454ce317d5f536d463f99c8013dd6b1a9178c2379a9f27ce", func := "loop.example/trunk/laws.FnExactAspOpen", spec := "fnExactAspOpen", apart := false, narrowed := true }
def FnExactAspOpenUptoSaid : Prop := fnExactAspOpenUptoRow.holds Try.pinned (OpenSpec.upto fnExactAspOpenSpec)

/-- 'laws.FnExactAspGone', WHERE WHAT IT READS IS OF BULK AT MOST 1048576: true; the input reads as it did. -/
def fnExactAspGoneUptoRow : OpenClaim := { program := "ythdjjgbjemaabaa", sum := "014b7d28373a08df454ce317d5f536d463f99c8013dd6b1a9178c2379a9f27ce", func := "loop.example/trunk/laws.FnExactAspGone", spec := "fnExactAspGone", unfollowed := true, recurses := true, apart := false, narrowed := true }
def FnExactAspGoneUptoSaid : Prop := fnExactAspGoneUptoRow.holds Try.pinned (OpenSpec.upto fnExactAspGoneSpec)

/-- 'laws.FnExactAspRise', WHERE WHAT IT READS IS OF BULK AT MOST 1048576: true; the input reads as it did. -/
def fnExactAspRiseUptoRow : OpenClaim := { program := "ythdjjgbjemaabaa", sum := "014b7d28373a08df454ce317d5f536d463f99c8013dd6b1a9178c2379a9f27ce", func := "loop.example/trunk/laws.FnExactAspRise", spec := "fnExactAspRise", unfollowed := true, recurses := true, apart := false, narrowed := true }
def FnExactAspRiseUptoSaid : Prop := fnExactAspRiseUptoRow.holds Try.pinned (OpenSpec.upto fnExactAspRiseSpec)

/-- 'laws.FnExactAspWant', WHERE WHAT IT READS IS OF BULK AT MOST 1048576: true; the input reads as it did. -/
def fnExactAspWantUptoRow : OpenClaim := { program := "ythdjjgbjemaabaa", sum := "014b7d28373a08df454ce317d5f536d463f99c8013dd6b1a9178c2379a9f27ce", func := "loop.example/trunk/laws.FnExactAspWant", spec := "fnExactAspWant", unfollowed := true, recurses := true, apart := false, narrowed := true }
def FnExactAspWantUptoSaid : Prop := fnExactAspWantUptoRow.holds Try.pinned (OpenSpec.upto fnExactAspWantSpec)

/-- 'laws.FnExactAscClose', WHERE WHAT IT READS IS OF BULK AT MOST 1048576: true; the input reads as it did. -/
def fnExactAscCloseUptoRow : OpenClaim := { program := "ythdjjgbjemaabaa", sum := "014b7d28373a08df454ce317d5f536d463f99c8013dd6b1a9178c2379a9f27ce", func := "loop.example/trunk/laws.FnExactAscClose", spec := "fnExactAscClose", unfollowed := true, recurses := true, apart := false, narrowed := true }
def FnExactAscCloseUptoSaid : Prop := fnExactAscCloseUptoRow.holds Try.pinned (OpenSpec.upto fnExactAscCloseSpec)

/-- 'laws.FnExactAscStart', WHERE WHAT IT READS IS OF BULK AT MOST 1048576: true; the input reads as it did. -/
def fnExactAscStartUptoRow : OpenClaim := { program := "ythdjjgbjemaabaa", sum := "014b7d28373a08df454ce317d5f536d463f99c8013dd6b1a9178c2379a9f27ce", func := "loop.example/trunk/laws.FnExactAscStart", spec := "fnExactAscStart", unfollowed := true, recurses := true, apart := false, narrowed := true }
def FnExactAscStartUptoSaid : Prop := fnExactAscStartUptoRow.holds Try.pinned (OpenSpec.upto fnExactAscStartSpec)

/-- 'laws.FnExactAscTick', WHERE WHAT IT READS IS OF BULK AT MOST 1048576: true; the input reads as it did. -/
def fnExactAscTickUptoRow : OpenClaim := { program := "ythdjjgbjemaabaa", sum := "014b7d28373a08df454ce317d5f536d463f99c8013dd6b1a9178c2379a9f27ce", func := "loop.example/trunk/laws.FnExactAscTick", spec := "fnExactAscTick", unfollowed := true, recurses := true, apart := false, narrowed := true }
def FnExactAscTickUptoSaid : Prop := fnExactAscTickUptoRow.holds Try.pinned (OpenSpec.upto fnExactAscTickSpec)

/-- 'laws.FnExactDatPipeOpen', WHERE WHAT IT READS IS OF BULK AT MOST 1048576: true; the input reads as it did. -/
def fnExactDatPipeOpenUptoRow : OpenClaim := { program := "ythdjjgbjemaabaa", sum := "014b7d28373a08df454ce317d5f536d463f99c8013dd6b1a9178c2379a9f27ce", func := "loop.example/trunk/laws.FnExactDatPipeOpen", spec := "fnExactDatPipeOpen", apart := false, narrowed := true }
def FnExactDatPipeOpenUptoSaid : Prop := fnExactDatPipeOpenUptoRow.holds Try.pinned (OpenSpec.upto fnExactDatPipeOpenSpec)

/-- 'laws.FnExactDatPush', WHERE WHAT IT READS IS OF BULK AT MOST 1048576: true; the input reads as it did. -/
def fnExactDatPushUptoRow : OpenClaim := { program := "ythdjjgbjemaabaa", sum := "014b7d28373a08df454ce317d5f536d463f99c8013dd6b1a9178c2379a9f27ce", func := "loop.example/trunk/laws.FnExactDatPush", spec := "fnExactDatPush", unfollowed := true, recurses := true, apart := false, narrowed := true }
def FnExactDatPushUptoSaid : Prop := fnExactDatPushUptoRow.holds Try.pinned (OpenSpec.upto fnExactDatPushSpec)

/-- 'laws.FnExactDatAck', WHERE WHAT IT READS IS OF BULK AT MOST 1048576: true; the input reads as it did. -/
def fnExactDatAckUptoRow : OpenClaim := { program := "ythdjjgbjemaabaa", sum := "014b7d28373a08df454ce317d5f536d463f99c8013dd6b1a9178c2379a9f27ce", func := "loop.example/trunk/laws.FnExactDatAck", spec := "fnExactDatAck", unfollowed := true, recurses := true, apart := false, narrowed := true }
def FnExactDatAckUptoSaid : Prop := fnExactDatAckUptoRow.holds Try.pinned (OpenSpec.upto fnExactDatAckSpec)

/-- 'laws.FnCookie', WHERE WHAT IT READS IS OF BULK AT MOST 1048576: true; the input reads as it did. -/
def fnCookieUptoRow : OpenClaim := { program := "ythdjjgbjemaabaa", sum := "014b7d28373a08df454ce317d5f536d463f99c8013dd6b1a9178c2379a9f27ce", func := "loop.example/trunk/laws.FnCookie", spec := "fnCookie", apart := false, narrowed := true }
def FnCookieUptoSaid : Prop := fnCookieUptoRow.holds Try.pinned (OpenSpec.upto fnCookieSpec)

end Rows
end Go.Proofs.Ythdjjgbjemaabaa
