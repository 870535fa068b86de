/-
  No cell of these rows narrows 'for every input' (looked for: loops, veiled, ifaces, maps, wideKeys, modest, calm, conditions, laid).
  DERIVED. THE GIVEN ROWS OF THIS SEAT. 7 by the template 'for every input the law returns true; each argument reads behind the call as it read before'; 0 by the template 'total and deterministic' (their statements: YtlfhikojophlpaaTotals.lean).
  GIVEN WITH THE SEED: the statements are not yours to turn. If you find one false, say at which input.
  Laid BY PROGRAM, IN A SANDBOX (cutbox-rows.mjs): the forced cells as the released guide's own fill.sh prints them over the translation 71db7b19f6dd9b01… (all of the seat's roots in one cut). By AI agents, Wed Nov 11 2026. No macro, syntax, notation, axiom, sorry.
-/
import Derived.Test.YtlfhikojophlpaaChecked
import GoSem.Claim
import GoSem.ClaimJoined
import GoSem.ClaimMapViews
import Derived.JoinedTies
import Derived.KernelRfl
namespace Go.Proofs.Ytlfhikojophlpaa
/- THE CELL 'sum', in the pinned program and in every row, IS THE sha256 OF THE DUMP (.gsa) THAT YtlfhikojophlpaaProg.lean LOADS. Nothing in Lean hashes anything: it is a label: what it is worth is what the hold of that sum in a sandbox is worth. -/
noncomputable def Try.pinned : Pinned := { name := "ytlfhikojophlpaa", sum := "71db7b19f6dd9b01ece56b7fce2e3845127007a9781c6b583bc3b2ff70d3cf01", checked := Try.checked }
namespace Rows
def none {H : Type} : Left H := { results := [], args := [] }

/-- 'laws.FnSerial': WHATEVER THE INPUT: true; the input reads as it did. -/
def fnSerialSpec : ChangeSpec := { name := "fnSerial", fn := fun _ => fun
  | [d1, d2] => { results := [.lit (.bool true)], args := [d1, d2] }
  | _ => none }
def fnSerialRow : OpenClaim := { program := "ytlfhikojophlpaa", sum := "71db7b19f6dd9b01ece56b7fce2e3845127007a9781c6b583bc3b2ff70d3cf01", func := "loop.example/trunk/laws.FnSerial", spec := "fnSerial", apart := false }
def FnSerialSaid : Prop := fnSerialRow.holds Try.pinned (OpenSpec.ofChange fnSerialSpec)

/-- ITS FALSE NEIGHBOUR: 'it returns false'. Refute it at one input. -/
def fnSerialWrong : ChangeSpec := { name := "fnSerial", fn := fun _ => fun
  | [d1, d2] => { results := [.lit (.bool false)], args := [d1, d2] }
  | _ => none }
def FnSerialWrongFalsely : Prop := fnSerialRow.holds Try.pinned (OpenSpec.ofChange fnSerialWrong)

/-- 'laws.FnExactSerAdd': WHATEVER THE INPUT: true; the input reads as it did. -/
def fnExactSerAddSpec : ChangeSpec := { name := "fnExactSerAdd", fn := fun _ => fun
  | [d1, d2, d3] => { results := [.lit (.bool true)], args := [d1, d2, d3] }
  | _ => none }
def fnExactSerAddRow : OpenClaim := { program := "ytlfhikojophlpaa", sum := "71db7b19f6dd9b01ece56b7fce2e3845127007a9781c6b583bc3b2ff70d3cf01", func := "loop.example/trunk/laws.FnExactSerAdd", spec := "fnExactSerAdd", apart := false }
def FnExactSerAddSaid : Prop := fnExactSerAddRow.holds Try.pinned (OpenSpec.ofChange fnExactSerAddSpec)

/-- ITS FALSE NEIGHBOUR: 'it returns false'. Refute it at one input. -/
def fnExactSerAddWrong : ChangeSpec := { name := "fnExactSerAdd", fn := fun _ => fun
  | [d1, d2, d3] => { results := [.lit (.bool false)], args := [d1, d2, d3] }
  | _ => none }
def FnExactSerAddWrongFalsely : Prop := fnExactSerAddRow.holds Try.pinned (OpenSpec.ofChange fnExactSerAddWrong)

/-- 'laws.FnExactSerGap': WHATEVER THE INPUT: true; the input reads as it did. -/
def fnExactSerGapSpec : ChangeSpec := { name := "fnExactSerGap", fn := fun _ => fun
  | [d1, d2, d3] => { results := [.lit (.bool true)], args := [d1, d2, d3] }
  | _ => none }
def fnExactSerGapRow : OpenClaim := { program := "ytlfhikojophlpaa", sum := "71db7b19f6dd9b01ece56b7fce2e3845127007a9781c6b583bc3b2ff70d3cf01", func := "loop.example/trunk/laws.FnExactSerGap", spec := "fnExactSerGap", apart := false }
def FnExactSerGapSaid : Prop := fnExactSerGapRow.holds Try.pinned (OpenSpec.ofChange fnExactSerGapSpec)

/-- ITS FALSE NEIGHBOUR: 'it returns false'. Refute it at one input. -/
def fnExactSerGapWrong : ChangeSpec := { name := "fnExactSerGap", fn := fun _ => fun
  | [d1, d2, d3] => { results := [.lit (.bool false)], args := [d1, d2, d3] }
  | _ => none }
def FnExactSerGapWrongFalsely : Prop := fnExactSerGapRow.holds Try.pinned (OpenSpec.ofChange fnExactSerGapWrong)

/-- 'laws.FnExactSerLess': WHATEVER THE INPUT: true; the input reads as it did. -/
def fnExactSerLessSpec : ChangeSpec := { name := "fnExactSerLess", fn := fun _ => fun
  | [d1, d2, d3] => { results := [.lit (.bool true)], args := [d1, d2, d3] }
  | _ => none }
def fnExactSerLessRow : OpenClaim := { program := "ytlfhikojophlpaa", sum := "71db7b19f6dd9b01ece56b7fce2e3845127007a9781c6b583bc3b2ff70d3cf01", func := "loop.example/trunk/laws.FnExactSerLess", spec := "fnExactSerLess", apart := false }
def FnExactSerLessSaid : Prop := fnExactSerLessRow.holds Try.pinned (OpenSpec.ofChange fnExactSerLessSpec)

/-- ITS FALSE NEIGHBOUR: 'it returns false'. Refute it at one input. -/
def fnExactSerLessWrong : ChangeSpec := { name := "fnExactSerLess", fn := fun _ => fun
  | [d1, d2, d3] => { results := [.lit (.bool false)], args := [d1, d2, d3] }
  | _ => none }
def FnExactSerLessWrongFalsely : Prop := fnExactSerLessRow.holds Try.pinned (OpenSpec.ofChange fnExactSerLessWrong)

/-- 'laws.FnExactOctPut': WHATEVER THE INPUT: true; the input reads as it did. -/
def fnExactOctPutSpec : ChangeSpec := { name := "fnExactOctPut", fn := fun _ => fun
  | [d1, d2] => { results := [.lit (.bool true)], args := [d1, d2] }
  | _ => none }
def fnExactOctPutRow : OpenClaim := { program := "ytlfhikojophlpaa", sum := "71db7b19f6dd9b01ece56b7fce2e3845127007a9781c6b583bc3b2ff70d3cf01", func := "loop.example/trunk/laws.FnExactOctPut", spec := "fnExactOctPut", apart := false }
def FnExactOctPutSaid : Prop := fnExactOctPutRow.holds Try.pinned (OpenSpec.ofChange fnExactOctPutSpec)

/-- ITS FALSE NEIGHBOUR: 'it returns false'. Refute it at one input. -/
def fnExactOctPutWrong : ChangeSpec := { name := "fnExactOctPut", fn := fun _ => fun
  | [d1, d2] => { results := [.lit (.bool false)], args := [d1, d2] }
  | _ => none }
def FnExactOctPutWrongFalsely : Prop := fnExactOctPutRow.holds Try.pinned (OpenSpec.ofChange fnExactOctPutWrong)

/-- 'laws.FnExactOctGet': WHATEVER THE INPUT: true; the input reads as it did. -/
def fnExactOctGetSpec : ChangeSpec := { name := "fnExactOctGet", fn := fun _ => fun
  | [d1, d2, d3] => { results := [.lit (.bool true)], args := [d1, d2, d3] }
  | _ => none }
def fnExactOctGetRow : OpenClaim := { program := "ytlfhikojophlpaa", sum := "71db7b19f6dd9b01ece56b7fce2e3845127007a9781c6b583bc3b2ff70d3cf01", func := "loop.example/trunk/laws.FnExactOctGet", spec := "fnExactOctGet", apart := false }
def FnExactOctGetSaid : Prop := fnExactOctGetRow.holds Try.pinned (OpenSpec.ofChange fnExactOctGetSpec)

/-- ITS FALSE NEIGHBOUR: 'it returns false'. Refute it at one input. -/
def fnExactOctGetWrong : ChangeSpec := { name := "fnExactOctGet", fn := fun _ => fun
  | [d1, d2, d3] => { results := [.lit (.bool false)], args := [d1, d2, d3] }
  | _ => none }
def FnExactOctGetWrongFalsely : Prop := fnExactOctGetRow.holds Try.pinned (OpenSpec.ofChange fnExactOctGetWrong)

/-- 'laws.FnExactOctWrite': WHATEVER THE INPUT: true; the input reads as it did. -/
def fnExactOctWriteSpec : ChangeSpec := { name := "fnExactOctWrite", fn := fun _ => fun
  | [d] => { results := [.lit (.bool true)], args := [d] }
  | _ => none }
def fnExactOctWriteRow : OpenClaim := { program := "ytlfhikojophlpaa", sum := "71db7b19f6dd9b01ece56b7fce2e3845127007a9781c6b583bc3b2ff70d3cf01", func := "loop.example/trunk/laws.FnExactOctWrite", spec := "fnExactOctWrite", apart := false }
def FnExactOctWriteSaid : Prop := fnExactOctWriteRow.holds Try.pinned (OpenSpec.ofChange fnExactOctWriteSpec)

/-- ITS FALSE NEIGHBOUR: 'it returns false'. Refute it at one input. -/
def fnExactOctWriteWrong : ChangeSpec := { name := "fnExactOctWrite", fn := fun _ => fun
  | [d] => { results := [.lit (.bool false)], args := [d] }
  | _ => none }
def FnExactOctWriteWrongFalsely : Prop := fnExactOctWriteRow.holds Try.pinned (OpenSpec.ofChange fnExactOctWriteWrong)

/- THE SECOND FORM. 'bulk': how many values and letters a reading holds, each counted each time it is reached (what is shared counts as often as it is met; a slice's spare places count too). A statement '..UptoSaid' is the law's where the arguments, and the package variables that the reading takes, are together of bulk at most 1048576: NARROWER than '..Said'. Prove '..Said' where nothing that the law and all that it calls make is longer than what came in: it says more and counts as full. Else prove '..UptoSaid'. A law counts once. -/
mutual
def uptoBulk {H : Type} : DataW H → Nat
  | .lit (.string bytes) => bytes.length + 1
  | .lit _ => 1
  | .nil => 1
  | .ptr d => uptoBulk d + 1
  | .slice elems spare => uptoBulkAll elems + uptoBulkAll spare + 1
  | .agg parts => uptoBulkAll parts + 1
  | .iface _ d => uptoBulk d + 1
  | .map entries => uptoBulkEntries entries + 1
  | .held _ => 1
def uptoBulkAll {H : Type} : List (DataW H) → Nat
  | [] => 0
  | d :: r => uptoBulk d + uptoBulkAll r
def uptoBulkEntries {H : Type} : List (Lit × DataW H) → Nat
  | [] => 0
  | x :: r => uptoBulkEntry x + uptoBulkEntries r
def uptoBulkEntry {H : Type} : Lit × DataW H → Nat
  | (.string bytes, d) => bytes.length + uptoBulk d + 1
  | (_, d) => uptoBulk d + 1
 end
def uptoSmall : (H : Type) → List (DataW H) → Bool := fun _ ds => decide (uptoBulkAll ds ≤ 1048576)
def OpenSpec.upto (s : _root_.Go.ChangeSpec) : _root_.Go.OpenSpec := { _root_.Go.OpenSpec.ofChange s with cond := some uptoSmall }

/-- 'laws.FnSerial', WHERE WHAT IT READS IS OF BULK AT MOST 1048576: true; the input reads as it did. -/
def fnSerialUptoRow : OpenClaim := { program := "ytlfhikojophlpaa", sum := "71db7b19f6dd9b01ece56b7fce2e3845127007a9781c6b583bc3b2ff70d3cf01", func := "loop.example/trunk/laws.FnSerial", spec := "fnSerial", apart := false, narrowed := true }
def FnSerialUptoSaid : Prop := fnSerialUptoRow.holds Try.pinned (OpenSpec.upto fnSerialSpec)

/-- 'laws.FnExactSerAdd', WHERE WHAT IT READS IS OF BULK AT MOST 1048576: true; the input reads as it did. -/
def fnExactSerAddUptoRow : OpenClaim := { program := "ytlfhikojophlpaa", sum := "71db7b19f6dd9b01ece56b7fce2e3845127007a9781c6b583bc3b2ff70d3cf01", func := "loop.example/trunk/laws.FnExactSerAdd", spec := "fnExactSerAdd", apart := false, narrowed := true }
def FnExactSerAddUptoSaid : Prop := fnExactSerAddUptoRow.holds Try.pinned (OpenSpec.upto fnExactSerAddSpec)

/-- 'laws.FnExactSerGap', WHERE WHAT IT READS IS OF BULK AT MOST 1048576: true; the input reads as it did. -/
def fnExactSerGapUptoRow : OpenClaim := { program := "ytlfhikojophlpaa", sum := "71db7b19f6dd9b01ece56b7fce2e3845127007a9781c6b583bc3b2ff70d3cf01", func := "loop.example/trunk/laws.FnExactSerGap", spec := "fnExactSerGap", apart := false, narrowed := true }
def FnExactSerGapUptoSaid : Prop := fnExactSerGapUptoRow.holds Try.pinned (OpenSpec.upto fnExactSerGapSpec)

/-- 'laws.FnExactSerLess', WHERE WHAT IT READS IS OF BULK AT MOST 1048576: true; the input reads as it did. -/
def fnExactSerLessUptoRow : OpenClaim := { program := "ytlfhikojophlpaa", sum := "71db7b19f6dd9b01ece56b7fce2e3845127007a9781c6b583bc3b2ff70d3cf01", func := "loop.example/trunk/laws.FnExactSerLess", spec := "fnExactSerLess", apart := false, narrowed := true }
def FnExactSerLessUptoSaid : Prop := fnExactSerLessUptoRow.holds Try.pinned (OpenSpec.upto fnExactSerLessSpec)

/-- 'laws.FnExactOctPut', WHERE WHAT IT READS IS OF BULK AT MOST 1048576: true; the input reads as it did. -/
def fnExactOctPutUptoRow : OpenClaim := { program := "ytlfhikojophlpaa", sum := "71db7b19f6dd9b01ece56b7fce2e3845127007a9781c6b583bc3b2ff70d3cf01", func := "loop.example/trunk/laws.FnExactOctPut", spec := "fnExactOctPut", apart := false, narrowed := true }
def FnExactOctPutUptoSaid : Prop := fnExactOctPutUptoRow.holds Try.pinned (OpenSpec.upto fnExactOctPutSpec)

/-- 'laws.FnExactOctGet', WHERE WHAT IT READS IS OF BULK AT MOST 1048576: true; the input reads as it did. -/
def fnExactOctGetUptoRow : OpenClaim := { program := "ytlfhikojophlpaa", sum := "71db7b19f6dd9b01ece56b7fce2e3845127007a9781c6b583bc3b2ff70d3cf01", func := "loop.example/trunk/laws.FnExactOctGet", spec := "fnExactOctGet", apart := false, narrowed := true }
def FnExactOctGetUptoSaid : Prop := fnExactOctGetUptoRow.holds Try.pinned (OpenSpec.upto fnExactOctGetSpec)

/-- 'laws.FnExactOctWrite', WHERE WHAT IT READS IS OF BULK AT MOST 1048576: true; the input reads as it did. -/
def fnExactOctWriteUptoRow : OpenClaim := { program := "ytlfhikojophlpaa", sum := "71db7b19f6dd9b01ece56b7fce2e3845127007a9781c6b583bc3b2ff70d3cf01", func := "loop.example/trunk/laws.FnExactOctWrite", spec := "fnExactOctWrite", apart := false, narrowed := true }
def FnExactOctWriteUptoSaid : Prop := fnExactOctWriteUptoRow.holds Try.pinned (OpenSpec.upto fnExactOctWriteSpec)

end Rows
end Go.Proofs.Ytlfhikojophlpaa
