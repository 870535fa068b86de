/-
  No cell of these rows narrows 'for every input' (looked for: loops, veiled, ifaces, maps, wideKeys, modest, calm, conditions, laid).
  DERIVED. THE GIVEN ROWS OF THIS SEAT. 11 by the template 'for every input the law returns true; each argument reads behind the call as it read before'; 0 by the template 'total and deterministic' (their statements: YtiklahobnihhmaaTotals.lean).
  GIVEN WITH THE SEED: the statements are not yours to turn. If you find one false, say at which input.
  Laid BY PROGRAM, IN A SANDBOX (cutbox-rows.mjs): the forced cells as the released guide's own fill.sh prints them over the translation 49343698156e1491… (all of the seat's roots in one cut). By AI agents, Wed Nov 11 2026. No macro, syntax, notation, axiom, sorry.
-/
import Derived.Test.YtiklahobnihhmaaChecked
import GoSem.Claim
import GoSem.ClaimJoined
import GoSem.ClaimMapViews
import Derived.JoinedTies
import Derived.KernelRfl
namespace Go.Proofs.Ytiklahobnihhmaa
/- THE CELL 'sum', in the pinned program and in every row, IS THE sha256 OF THE DUMP (.gsa) THAT YtiklahobnihhmaaProg.lean LOADS. Nothing in Lean hashes anything: it is a label: what it is worth is what the hold of that sum in a sandbox is worth. -/
noncomputable def Try.pinned : Pinned := { name := "ytiklahobnihhmaa", sum := "49343698156e14919a6e2cb7ac0edf91ce39e65fea5601aa804668654bb9663b", checked := Try.checked }
namespace Rows
def none {H : Type} : Left H := { results := [], args := [] }

/-- 'laws.FnExactDatInOpen': WHATEVER THE INPUT: true; the input reads as it did. -/
def fnExactDatInOpenSpec : ChangeSpec := { name := "fnExactDatInOpen", fn := fun _ => fun
  | [d1, d2] => { results := [.lit (.bool true)], args := [d1, d2] }
  | _ => none }
def fnExactDatInOpenRow : OpenClaim := { program := "ytiklahobnihhmaa", sum := "49343698156e14919a6e2cb7ac0edf91ce39e65fea5601aa804668654bb9663b", func := "loop.example/trunk/laws.FnExactDatInOpen", spec := "fnExactDatInOpen", apart := false }
def FnExactDatInOpenSaid : Prop := fnExactDatInOpenRow.holds Try.pinned (OpenSpec.ofChange fnExactDatInOpenSpec)

/-- ITS FALSE NEIGHBOUR: 'it returns false'. Refute it at one input. -/
def fnExactDatInOpenWrong : ChangeSpec := { name := "fnExactDatInOpen", fn := fun _ => fun
  | [d1, d2] => { results := [.lit (.bool false)], args := [d1, d2] }
  | _ => none }
def FnExactDatInOpenWrongFalsely : Prop := fnExactDatInOpenRow.holds Try.pinned (OpenSpec.ofChange fnExactDatInOpenWrong)

/-- 'laws.FnExactMsgOk': WHATEVER THE INPUT: true; the input reads as it did. -/
def fnExactMsgOkSpec : ChangeSpec := { name := "fnExactMsgOk", fn := fun _ => fun
  | [d] => { results := [.lit (.bool true)], args := [d] }
  | _ => none }
def fnExactMsgOkRow : OpenClaim := { program := "ytiklahobnihhmaa", sum := "49343698156e14919a6e2cb7ac0edf91ce39e65fea5601aa804668654bb9663b", func := "loop.example/trunk/laws.FnExactMsgOk", spec := "fnExactMsgOk", unfollowed := true, recurses := true, apart := false }
def FnExactMsgOkSaid : Prop := fnExactMsgOkRow.holds Try.pinned (OpenSpec.ofChange fnExactMsgOkSpec)

/-- ITS FALSE NEIGHBOUR: 'it returns false'. Refute it at one input. -/
def fnExactMsgOkWrong : ChangeSpec := { name := "fnExactMsgOk", fn := fun _ => fun
  | [d] => { results := [.lit (.bool false)], args := [d] }
  | _ => none }
def FnExactMsgOkWrongFalsely : Prop := fnExactMsgOkRow.holds Try.pinned (OpenSpec.ofChange fnExactMsgOkWrong)

/-- 'laws.FnExactKeyOk': WHATEVER THE INPUT: true; the input reads as it did. -/
def fnExactKeyOkSpec : ChangeSpec := { name := "fnExactKeyOk", fn := fun _ => fun
  | [d] => { results := [.lit (.bool true)], args := [d] }
  | _ => none }
def fnExactKeyOkRow : OpenClaim := { program := "ytiklahobnihhmaa", sum := "49343698156e14919a6e2cb7ac0edf91ce39e65fea5601aa804668654bb9663b", func := "loop.example/trunk/laws.FnExactKeyOk", spec := "fnExactKeyOk", unfollowed := true, recurses := true, apart := false }
def FnExactKeyOkSaid : Prop := fnExactKeyOkRow.holds Try.pinned (OpenSpec.ofChange fnExactKeyOkSpec)

/-- ITS FALSE NEIGHBOUR: 'it returns false'. Refute it at one input. -/
def fnExactKeyOkWrong : ChangeSpec := { name := "fnExactKeyOk", fn := fun _ => fun
  | [d] => { results := [.lit (.bool false)], args := [d] }
  | _ => none }
def FnExactKeyOkWrongFalsely : Prop := fnExactKeyOkRow.holds Try.pinned (OpenSpec.ofChange fnExactKeyOkWrong)

/-- 'laws.FnExactKeyMatch': WHATEVER THE INPUT: true; the input reads as it did. -/
def fnExactKeyMatchSpec : ChangeSpec := { name := "fnExactKeyMatch", fn := fun _ => fun
  | [d1, d2] => { results := [.lit (.bool true)], args := [d1, d2] }
  | _ => none }
def fnExactKeyMatchRow : OpenClaim := { program := "ytiklahobnihhmaa", sum := "49343698156e14919a6e2cb7ac0edf91ce39e65fea5601aa804668654bb9663b", func := "loop.example/trunk/laws.FnExactKeyMatch", spec := "fnExactKeyMatch", unfollowed := true, recurses := true, apart := false }
def FnExactKeyMatchSaid : Prop := fnExactKeyMatchRow.holds Try.pinned (OpenSpec.ofChange fnExactKeyMatchSpec)

/-- ITS FALSE NEIGHBOUR: 'it returns false'. Refute it at one input. -/
def fnExactKeyMatchWrong : ChangeSpec := { name := "fnExactKeyMatch", fn := fun _ => fun
  | [d1, d2] => { results := [.lit (.bool false)], args := [d1, d2] }
  | _ => none }
def FnExactKeyMatchWrongFalsely : Prop := fnExactKeyMatchRow.holds Try.pinned (OpenSpec.ofChange fnExactKeyMatchWrong)

/-- 'laws.FnExactPthPick': WHATEVER THE INPUT: true; the input reads as it did. -/
def fnExactPthPickSpec : ChangeSpec := { name := "fnExactPthPick", fn := fun _ => fun
  | [d1, d2] => { results := [.lit (.bool true)], args := [d1, d2] }
  | _ => none }
def fnExactPthPickRow : OpenClaim := { program := "ytiklahobnihhmaa", sum := "49343698156e14919a6e2cb7ac0edf91ce39e65fea5601aa804668654bb9663b", func := "loop.example/trunk/laws.FnExactPthPick", spec := "fnExactPthPick", unfollowed := true, recurses := true, apart := false }
def FnExactPthPickSaid : Prop := fnExactPthPickRow.holds Try.pinned (OpenSpec.ofChange fnExactPthPickSpec)

/-- ITS FALSE NEIGHBOUR: 'it returns false'. Refute it at one input. -/
def fnExactPthPickWrong : ChangeSpec := { name := "fnExactPthPick", fn := fun _ => fun
  | [d1, d2] => { results := [.lit (.bool false)], args := [d1, d2] }
  | _ => none }
def FnExactPthPickWrongFalsely : Prop := fnExactPthPickRow.holds Try.pinned (OpenSpec.ofChange fnExactPthPickWrong)

/-- 'laws.FnExactDatOutOk': WHATEVER THE INPUT: true; the input reads as it did. -/
def fnExactDatOutOkSpec : ChangeSpec := { name := "fnExactDatOutOk", fn := fun _ => fun
  | [d] => { results := [.lit (.bool true)], args := [d] }
  | _ => none }
def fnExactDatOutOkRow : OpenClaim := { program := "ytiklahobnihhmaa", sum := "49343698156e14919a6e2cb7ac0edf91ce39e65fea5601aa804668654bb9663b", func := "loop.example/trunk/laws.FnExactDatOutOk", spec := "fnExactDatOutOk", unfollowed := true, recurses := true, apart := false }
def FnExactDatOutOkSaid : Prop := fnExactDatOutOkRow.holds Try.pinned (OpenSpec.ofChange fnExactDatOutOkSpec)

/-- ITS FALSE NEIGHBOUR: 'it returns false'. Refute it at one input. -/
def fnExactDatOutOkWrong : ChangeSpec := { name := "fnExactDatOutOk", fn := fun _ => fun
  | [d] => { results := [.lit (.bool false)], args := [d] }
  | _ => none }
def FnExactDatOutOkWrongFalsely : Prop := fnExactDatOutOkRow.holds Try.pinned (OpenSpec.ofChange fnExactDatOutOkWrong)

/-- 'laws.FnExactDatInOk': WHATEVER THE INPUT: true; the input reads as it did. -/
def fnExactDatInOkSpec : ChangeSpec := { name := "fnExactDatInOk", fn := fun _ => fun
  | [d] => { results := [.lit (.bool true)], args := [d] }
  | _ => none }
def fnExactDatInOkRow : OpenClaim := { program := "ytiklahobnihhmaa", sum := "49343698156e14919a6e2cb7ac0edf91ce39e65fea5601aa804668654bb9663b", func := "loop.example/trunk/laws.FnExactDatInOk", spec := "fnExactDatInOk", unfollowed := true, recurses := true, apart := false }
def FnExactDatInOkSaid : Prop := fnExactDatInOkRow.holds Try.pinned (OpenSpec.ofChange fnExactDatInOkSpec)

/-- ITS FALSE NEIGHBOUR: 'it returns false'. Refute it at one input. -/
def fnExactDatInOkWrong : ChangeSpec := { name := "fnExactDatInOk", fn := fun _ => fun
  | [d] => { results := [.lit (.bool false)], args := [d] }
  | _ => none }
def FnExactDatInOkWrongFalsely : Prop := fnExactDatInOkRow.holds Try.pinned (OpenSpec.ofChange fnExactDatInOkWrong)

/-- 'laws.FnExactDatPipeOk': WHATEVER THE INPUT: true; the input reads as it did. -/
def fnExactDatPipeOkSpec : ChangeSpec := { name := "fnExactDatPipeOk", fn := fun _ => fun
  | [d] => { results := [.lit (.bool true)], args := [d] }
  | _ => none }
def fnExactDatPipeOkRow : OpenClaim := { program := "ytiklahobnihhmaa", sum := "49343698156e14919a6e2cb7ac0edf91ce39e65fea5601aa804668654bb9663b", func := "loop.example/trunk/laws.FnExactDatPipeOk", spec := "fnExactDatPipeOk", unfollowed := true, recurses := true, apart := false }
def FnExactDatPipeOkSaid : Prop := fnExactDatPipeOkRow.holds Try.pinned (OpenSpec.ofChange fnExactDatPipeOkSpec)

/-- ITS FALSE NEIGHBOUR: 'it returns false'. Refute it at one input. -/
def fnExactDatPipeOkWrong : ChangeSpec := { name := "fnExactDatPipeOk", fn := fun _ => fun
  | [d] => { results := [.lit (.bool false)], args := [d] }
  | _ => none }
def FnExactDatPipeOkWrongFalsely : Prop := fnExactDatPipeOkRow.holds Try.pinned (OpenSpec.ofChange fnExactDatPipeOkWrong)

/-- 'laws.FnExactAscEndOk': WHATEVER THE INPUT: true; the input reads as it did. -/
def fnExactAscEndOkSpec : ChangeSpec := { name := "fnExactAscEndOk", fn := fun _ => fun
  | [d] => { results := [.lit (.bool true)], args := [d] }
  | _ => none }
def fnExactAscEndOkRow : OpenClaim := { program := "ytiklahobnihhmaa", sum := "49343698156e14919a6e2cb7ac0edf91ce39e65fea5601aa804668654bb9663b", func := "loop.example/trunk/laws.FnExactAscEndOk", spec := "fnExactAscEndOk", unfollowed := true, recurses := true, apart := false }
def FnExactAscEndOkSaid : Prop := fnExactAscEndOkRow.holds Try.pinned (OpenSpec.ofChange fnExactAscEndOkSpec)

/-- ITS FALSE NEIGHBOUR: 'it returns false'. Refute it at one input. -/
def fnExactAscEndOkWrong : ChangeSpec := { name := "fnExactAscEndOk", fn := fun _ => fun
  | [d] => { results := [.lit (.bool false)], args := [d] }
  | _ => none }
def FnExactAscEndOkWrongFalsely : Prop := fnExactAscEndOkRow.holds Try.pinned (OpenSpec.ofChange fnExactAscEndOkWrong)

/-- 'laws.FnExactFrmChunkOk': WHATEVER THE INPUT: true; the input reads as it did. -/
def fnExactFrmChunkOkSpec : ChangeSpec := { name := "fnExactFrmChunkOk", fn := fun _ => fun
  | [d] => { results := [.lit (.bool true)], args := [d] }
  | _ => none }
def fnExactFrmChunkOkRow : OpenClaim := { program := "ytiklahobnihhmaa", sum := "49343698156e14919a6e2cb7ac0edf91ce39e65fea5601aa804668654bb9663b", func := "loop.example/trunk/laws.FnExactFrmChunkOk", spec := "fnExactFrmChunkOk", unfollowed := true, recurses := true, apart := false }
def FnExactFrmChunkOkSaid : Prop := fnExactFrmChunkOkRow.holds Try.pinned (OpenSpec.ofChange fnExactFrmChunkOkSpec)

/-- ITS FALSE NEIGHBOUR: 'it returns false'. Refute it at one input. -/
def fnExactFrmChunkOkWrong : ChangeSpec := { name := "fnExactFrmChunkOk", fn := fun _ => fun
  | [d] => { results := [.lit (.bool false)], args := [d] }
  | _ => none }
def FnExactFrmChunkOkWrongFalsely : Prop := fnExactFrmChunkOkRow.holds Try.pinned (OpenSpec.ofChange fnExactFrmChunkOkWrong)

/-- 'laws.FnExactAspOk': WHATEVER THE INPUT: true; the input reads as it did. -/
def fnExactAspOkSpec : ChangeSpec := { name := "fnExactAspOk", fn := fun _ => fun
  | [d] => { results := [.lit (.bool true)], args := [d] }
  | _ => none }
def fnExactAspOkRow : OpenClaim := { program := "ytiklahobnihhmaa", sum := "49343698156e14919a6e2cb7ac0edf91ce39e65fea5601aa804668654bb9663b", func := "loop.example/trunk/laws.FnExactAspOk", spec := "fnExactAspOk", apart := false }
def FnExactAspOkSaid : Prop := fnExactAspOkRow.holds Try.pinned (OpenSpec.ofChange fnExactAspOkSpec)

/-- ITS FALSE NEIGHBOUR: 'it returns false'. Refute it at one input. -/
def fnExactAspOkWrong : ChangeSpec := { name := "fnExactAspOk", fn := fun _ => fun
  | [d] => { results := [.lit (.bool false)], args := [d] }
  | _ => none }
def FnExactAspOkWrongFalsely : Prop := fnExactAspOkRow.holds Try.pinned (OpenSpec.ofChange fnExactAspOkWrong)

/- THE SECOND FORM. 'bulk': how many values and letters a reading holds, each counted each time it is reached (what is shared counts as often as it is met; a slice's spare places count too). A statement '..UptoSaid' is the law's where the arguments, and the package variables that the reading takes, are together of bulk at most 1048576: NARROWER than '..Said'. Prove '..Said' where nothing that the law and all that it calls make is longer than what came in: it says more and counts as full. Else prove '..UptoSaid'. A law counts once. -/
mutual
def uptoBulk {H : Type} : DataW H → Nat
  | .lit (.string bytes) => bytes.length + 1
  | .lit _ => 1
  | .nil => 1
  | .ptr d => uptoBulk d + 1
  | .slice elems spare => uptoBulkAll elems + uptoBulkAll spare + 1
  | .agg parts => uptoBulkAll parts + 1
  | .iface _ d => uptoBulk d + 1
  | .map entries => uptoBulkEntries entries + 1
  | .held _ => 1
def uptoBulkAll {H : Type} : List (DataW H) → Nat
  | [] => 0
  | d :: r => uptoBulk d + uptoBulkAll r
def uptoBulkEntries {H : Type} : List (Lit × DataW H) → Nat
  | [] => 0
  | x :: r => uptoBulkEntry x + uptoBulkEntries r
def uptoBulkEntry {H : Type} : Lit × DataW H → Nat
  | (.string bytes, d) => bytes.length + uptoBulk d + 1
  | (_, d) => uptoBulk d + 1
 end
def uptoSmall : (H : Type) → List (DataW H) → Bool := fun _ ds => decide (uptoBulkAll ds ≤ 1048576)
def OpenSpec.upto (s : _root_.Go.ChangeSpec) : _root_.Go.OpenSpec := { _root_.Go.OpenSpec.ofChange s with cond := some uptoSmall }

/-- 'laws.FnExactDatInOpen', WHERE WHAT IT READS IS OF BULK AT MOST 1048576: true; the input reads as it did. -/
def fnExactDatInOpenUptoRow : OpenClaim := { program := "ytiklahobnihhmaa", sum := "49343698156e14919a6e2cb7ac0edf91ce39e65fea5601aa804668654bb9663b", func := "loop.example/trunk/laws.FnExactDatInOpen", spec := "fnExactDatInOpen", apart := false, narrowed := true }
def FnExactDatInOpenUptoSaid : Prop := fnExactDatInOpenUptoRow.holds Try.pinned (OpenSpec.upto fnExactDatInOpenSpec)

/-- 'laws.FnExactMsgOk', WHERE WHAT IT READS IS OF BULK AT MOST 1048576: true; the input reads as it did. -/
def fnExactMsgOkUptoRow : OpenClaim := { program := "ytiklahobnihhmaa", sum := "49343698156e14919a6e2cb7ac0edf91ce39e65fea5601aa804668654bb9663b", func := "loop.example/trunk/laws.FnExactMsgOk", spec := "fnExactMsgOk", unfollowed := true, recurses := true, apart := false, narrowed := true }
def FnExactMsgOkUptoSaid : Prop := fnExactMsgOkUptoRow.holds Try.pinned (OpenSpec.upto fnExactMsgOkSpec)

/-- 'laws.FnExactKeyOk', WHERE WHAT IT READS IS OF BULK AT MOST 1048576: true; the input reads as it did. -/
def fnExactKeyOkUptoRow : OpenClaim := { program := "ytiklahobnihhmaa", sum := "49343698156e14919a6e2cb7ac0edf91ce39e65fea5601aa804668654bb9663b", func := "loop.example/trunk/laws.FnExactKeyOk", spec := "fnExactKeyOk", unfollowed := true, recurses := true, apart := false, narrowed := true }
def FnExactKeyOkUptoSaid : Prop := fnExactKeyOkUptoRow.holds Try.pinned (OpenSpec.upto fnExactKeyOkSpec)

/-- 'laws.FnExactKeyMatch', WHERE WHAT IT READS IS OF BULK AT MOST 1048576: true; the input reads as it did. -/
def fnExactKeyMatchUptoRow : OpenClaim := { program := "ytiklahobnihhmaa", sum := "49343698156e14919a6e2cb7ac0edf91ce39e65fea5601aa804668654bb9663b", func := "loop.example/trunk/laws.FnExactKeyMatch", spec := "fnExactKeyMatch", unfollowed := true, recurses := true, apart := false, narrowed := true }
def FnExactKeyMatchUptoSaid : Prop := fnExactKeyMatchUptoRow.holds Try.pinned (OpenSpec.upto fnExactKeyMatchSpec)

/-- 'laws.FnExactPthPick', WHERE WHAT IT READS IS OF BULK AT MOST 1048576: true; the input reads as it did. -/
def fnExactPthPickUptoRow : OpenClaim := { program := "ytiklahobnihhmaa", sum := "49343698156e14919a6e2cb7ac0edf91ce39e65fea5601aa804668654bb9663b", func := "loop.example/trunk/laws.FnExactPthPick", spec := "fnExactPthPick", unfollowed := true, recurses := true, apart := false, narrowed := true }
def FnExactPthPickUptoSaid : Prop := fnExactPthPickUptoRow.holds Try.pinned (OpenSpec.upto fnExactPthPickSpec)

/-- 'laws.FnExactDatOutOk', WHERE WHAT IT READS IS OF BULK AT MOST 1048576: true; the input reads as it did. -/
def fnExactDatOutOkUptoRow : OpenClaim := { program := "ytiklahobnihhmaa", sum := "49343698156e14919a6e2cb7ac0edf91ce39e65fea5601aa804668654bb9663b", func := "loop.example/trunk/laws.FnExactDatOutOk", spec := "fnExactDatOutOk", unfollowed := true, recurses := true, apart := false, narrowed := true }
def FnExactDatOutOkUptoSaid : Prop := fnExactDatOutOkUptoRow.holds Try.pinned (OpenSpec.upto fnExactDatOutOkSpec)

/-- 'laws.FnExactDatInOk', WHERE WHAT IT READS IS OF BULK AT MOST 1048576: true; the input reads as it did. -/
def fnExactDatInOkUptoRow : OpenClaim := { program := "ytiklahobnihhmaa", sum := "49343698156e14919a6e2cb7ac0edf91ce39e65fea5601aa804668654bb9663b", func := "loop.example/trunk/laws.FnExactDatInOk", spec := "fnExactDatInOk", unfollowed := true, recurses := true, apart := false, narrowed := true }
def FnExactDatInOkUptoSaid : Prop := fnExactDatInOkUptoRow.holds Try.pinned (OpenSpec.upto fnExactDatInOkSpec)

/-- 'laws.FnExactDatPipeOk', WHERE WHAT IT READS IS OF BULK AT MOST 1048576: true; the input reads as it did. -/
def fnExactDatPipeOkUptoRow : OpenClaim := { program := "ytiklahobnihhmaa", sum := "49343698156e14919a6e2cb7ac0edf91ce39e65fea5601aa804668654bb9663b", func := "loop.example/trunk/laws.FnExactDatPipeOk", spec := "fnExactDatPipeOk", unfollowed := true, recurses := true, apart := false, narrowed := true }
def FnExactDatPipeOkUptoSaid : Prop := fnExactDatPipeOkUptoRow.holds Try.pinned (OpenSpec.upto fnExactDatPipeOkSpec)

/-- 'laws.FnExactAscEndOk', WHERE WHAT IT READS IS OF BULK AT MOST 1048576: true; the input reads as it did. -/
def fnExactAscEndOkUptoRow : OpenClaim := { program := "ytiklahobnihhmaa", sum := "49343698156e14919a6e2cb7ac0edf91ce39e65fea5601aa804668654bb9663b", func := "loop.example/trunk/laws.FnExactAscEndOk", spec := "fnExactAscEndOk", unfollowed := true, recurses := true, apart := false, narrowed := true }
def FnExactAscEndOkUptoSaid : Prop := fnExactAscEndOkUptoRow.holds Try.pinned (OpenSpec.upto fnExactAscEndOkSpec)

/-- 'laws.FnExactFrmChunkOk', WHERE WHAT IT READS IS OF BULK AT MOST 1048576: true; the input reads as it did. -/
def fnExactFrmChunkOkUptoRow : OpenClaim := { program := "ytiklahobnihhmaa", sum := "49343698156e14919a6e2cb7ac0edf91ce39e65fea5601aa804668654bb9663b", func := "loop.example/trunk/laws.FnExactFrmChunkOk", spec := "fnExactFrmChunkOk", unfollowed := true, recurses := true, apart := false, narrowed := true }
def FnExactFrmChunkOkUptoSaid : Prop := fnExactFrmChunkOkUptoRow.holds Try.pinned (OpenSpec.upto fnExactFrmChunkOkSpec)

/-- 'laws.FnExactAspOk', WHERE WHAT IT READS IS OF BULK AT MOST 1048576: true; the input reads as it did. -/
def fnExactAspOkUptoRow : OpenClaim := { program := "ytiklahobnihhmaa", sum := "49343698156e14919a6e2cb7ac0edf91ce39e65fea5601aa804668654bb9663b", func := "loop.example/trunk/laws.FnExactAspOk", spec := "fnExactAspOk", apart := false, narrowed := true }
def FnExactAspOkUptoSaid : Prop := fnExactAspOkUptoRow.holds Try.pinned (OpenSpec.upto fnExactAspOkSpec)

end Rows
end Go.Proofs.Ytiklahobnihhmaa
