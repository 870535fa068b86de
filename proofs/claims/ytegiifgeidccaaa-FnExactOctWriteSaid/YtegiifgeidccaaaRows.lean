/-
  No cell of these rows narrows 'for every input' (looked for: loops, veiled, ifaces, maps, wideKeys, modest, calm, conditions, laid).
  DERIVED. THE GIVEN ROWS OF THIS SEAT. 2 by the template 'for every input the law returns true; each argument reads behind the call as it read before'; 0 by the template 'total and deterministic' (their statements: YtegiifgeidccaaaTotals.lean).
  GIVEN WITH THE SEED: the statements are not yours to turn. If you find one false, say at which input.
  Laid BY PROGRAM, IN A SANDBOX (cutbox-rows.mjs): the forced cells as the released guide's own fill.sh prints them over the translation baa884a8fb673d20… (all of the seat's roots in one cut). By AI agents, Wed Nov 11 2026. No macro, syntax, notation, axiom, sorry.
-/
import Derived.Test.YtegiifgeidccaaaChecked
import GoSem.Claim
import GoSem.ClaimJoined
import GoSem.ClaimMapViews
import Derived.JoinedTies
import Derived.KernelRfl
namespace Go.Proofs.Ytegiifgeidccaaa
/- THE CELL 'sum', in the pinned program and in every row, IS THE sha256 OF THE DUMP (.gsa) THAT YtegiifgeidccaaaProg.lean LOADS. Nothing in Lean hashes anything: it is a label: what it is worth is what the hold of that sum in a sandbox is worth. -/
noncomputable def Try.pinned : Pinned := { name := "ytegiifgeidccaaa", sum := "baa884a8fb673d204b82d08c84b5252ba7e613ad68ebae1ed146de32b7aa00e5", checked := Try.checked }
namespace Rows
def none {H : Type} : Left H := { results := [], args := [] }

/-- 'laws.FnExactOctWrite': WHATEVER THE INPUT: true; the input reads as it did. -/
def fnExactOctWriteSpec : ChangeSpec := { name := "fnExactOctWrite", fn := fun _ => fun
  | [d] => { results := [.lit (.bool true)], args := [d] }
  | _ => none }
def fnExactOctWriteRow : OpenClaim := { program := "ytegiifgeidccaaa", sum := "baa884a8fb673d204b82d08c84b5252ba7e613ad68ebae1ed146de32b7aa00e5", func := "loop.example/trunk/laws.FnExactOctWrite", spec := "fnExactOctWrite", apart := false }
def FnExactOctWriteSaid : Prop := fnExactOctWriteRow.holds Try.pinned (OpenSpec.ofChange fnExactOctWriteSpec)

/-- ITS FALSE NEIGHBOUR: 'it returns false'. Refute it at one input. -/
def fnExactOctWriteWrong : ChangeSpec := { name := "fnExactOctWrite", fn := fun _ => fun
  | [d] => { results := [.lit (.bool false)], args := [d] }
  | _ => none }
def FnExactOctWriteWrongFalsely : Prop := fnExactOctWriteRow.holds Try.pinned (OpenSpec.ofChange fnExactOctWriteWrong)

/-- 'laws.FnExactFrmChunkOk': WHATEVER THE INPUT: true; the input reads as it did. -/
def fnExactFrmChunkOkSpec : ChangeSpec := { name := "fnExactFrmChunkOk", fn := fun _ => fun
  | [d] => { results := [.lit (.bool true)], args := [d] }
  | _ => none }
def fnExactFrmChunkOkRow : OpenClaim := { program := "ytegiifgeidccaaa", sum := "baa884a8fb673d204b82d08c84b5252ba7e613ad68ebae1ed146de32b7aa00e5", func := "loop.example/trunk/laws.FnExactFrmChunkOk", spec := "fnExactFrmChunkOk", unfollowed := true, recurses := true, apart := false }
def FnExactFrmChunkOkSaid : Prop := fnExactFrmChunkOkRow.holds Try.pinned (OpenSpec.ofChange fnExactFrmChunkOkSpec)

/-- ITS FALSE NEIGHBOUR: 'it returns false'. Refute it at one input. -/
def fnExactFrmChunkOkWrong : ChangeSpec := { name := "fnExactFrmChunkOk", fn := fun _ => fun
  | [d] => { results := [.lit (.bool false)], args := [d] }
  | _ => none }
def FnExactFrmChunkOkWrongFalsely : Prop := fnExactFrmChunkOkRow.holds Try.pinned (OpenSpec.ofChange fnExactFrmChunkOkWrong)

/- THE SECOND FORM. 'bulk': how many values and letters a reading holds, each counted each time it is reached (what is shared counts as often as it is met; a slice's spare places count too). A statement '..UptoSaid' is the law's where the arguments, and the package variables that the reading takes, are together of bulk at most 1048576: NARROWER than '..Said'. Prove '..Said' where nothing that the law and all that it calls make is longer than what came in: it says more and counts as full. Else prove '..UptoSaid'. A law counts once. -/
mutual
def uptoBulk {H : Type} : DataW H → Nat
  | .lit (.string bytes) => bytes.length + 1
  | .lit _ => 1
  | .nil => 1
  | .ptr d => uptoBulk d + 1
  | .slice elems spare => uptoBulkAll elems + uptoBulkAll spare + 1
  | .agg parts => uptoBulkAll parts + 1
  | .iface _ d => uptoBulk d + 1
  | .map entries => uptoBulkEntries entries + 1
  | .held _ => 1
def uptoBulkAll {H : Type} : List (DataW H) → Nat
  | [] => 0
  | d :: r => uptoBulk d + uptoBulkAll r
def uptoBulkEntries {H : Type} : List (Lit × DataW H) → Nat
  | [] => 0
  | x :: r => uptoBulkEntry x + uptoBulkEntries r
def uptoBulkEntry {H : Type} : Lit × DataW H → Nat
  | (.string bytes, d) => bytes.length + uptoBulk d + 1
  | (_, d) => uptoBulk d + 1
 end
def uptoSmall : (H : Type) → List (DataW H) → Bool := fun _ ds => decide (uptoBulkAll ds ≤ 1048576)
def OpenSpec.upto (s : _root_.Go.ChangeSpec) : _root_.Go.OpenSpec := { _root_.Go.OpenSpec.ofChange s with cond := some uptoSmall }

/-- 'laws.FnExactOctWrite', WHERE WHAT IT READS IS OF BULK AT MOST 1048576: true; the input reads as it did. -/
def fnExactOctWriteUptoRow : OpenClaim := { program := "ytegiifgeidccaaa", sum := "baa884a8fb673d204b82d08c84b5252ba7e613ad68ebae1ed146de32b7aa00e5", func := "loop.example/trunk/laws.FnExactOctWrite", spec := "fnExactOctWrite", apart := false, narrowed := true }
def FnExactOctWriteUptoSaid : Prop := fnExactOctWriteUptoRow.holds Try.pinned (OpenSpec.upto fnExactOctWriteSpec)

/-- 'laws.FnExactFrmChunkOk', WHERE WHAT IT READS IS OF BULK AT MOST 1048576: true; the input reads as it did. -/
def fnExactFrmChunkOkUptoRow : OpenClaim := { program := "ytegiifgeidccaaa", sum := "baa884a8fb673d204b82d08c84b5252ba7e613ad68ebae1ed146de32b7aa00e5", func := "loop.example/trunk/laws.FnExactFrmChunkOk", spec := "fnExactFrmChunkOk", unfollowed := true, recurses := true, apart := false, narrowed := true }
def FnExactFrmChunkOkUptoSaid : Prop := fnExactFrmChunkOkUptoRow.holds Try.pinned (OpenSpec.upto fnExactFrmChunkOkSpec)

end Rows
end Go.Proofs.Ytegiifgeidccaaa
