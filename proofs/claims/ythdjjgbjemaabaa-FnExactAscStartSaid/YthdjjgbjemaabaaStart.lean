/-
  AscStart of both programs. (Written by wip/tools/genstart.py.)
-/
import Derived.Test.YthdjjgbjemaabaaStartS
import Derived.Test.YthdjjgbjemaabaaStartI
namespace Go.Proofs.Ythdjjgbjemaabaa
open Go.ChangeShapes Go.WideShapes Go.ChangeAt Go.RowKit
set_option linter.unusedVariables false
set_option linter.unusedSimpArgs false

theorem specAscStart_n (tag tsn : Int) (cs : List Value) (x : DAscEnd) (w : World) (h : FAscEnd w cs x) (hz : zAscEnd x ≤ 1048576) : Calls Try.prog 57 #[.agg cs.toArray, .int .i64 tag, .int .i64 tsn] w fun e w' => ∃ cs' v' f1 f2, e = .returned (.tuple #[.agg cs'.toArray, v', .int .i64 (startK x tag tsn)]) ∧ EAscEnd w' f1 cs' (startE x tag tsn) ∧ OwFrmPacketS w' f2 v' (startP x tag tsn) ∧ Nw w.heap.size w'.heap.size (f1 ++ f2) ∧ Below w.heap.size w w' :=
  specAscStart_p cs x tag tsn w h hz

theorem implAscStart_n (tag tsn : Int) (cs : List Value) (x : DAscEnd) (w : World) (h : FAscEnd w cs x) (hz : zAscEnd x ≤ 1048576) : Calls Try.prog 58 #[.agg cs.toArray, .int .i64 tag, .int .i64 tsn] w fun e w' => ∃ cs' v' f1 f2, e = .returned (.tuple #[.agg cs'.toArray, v', .int .i64 (startK x tag tsn)]) ∧ EAscEnd w' f1 cs' (startE x tag tsn) ∧ OwFrmPacketS w' f2 v' (startP x tag tsn) ∧ Nw w.heap.size w'.heap.size (f1 ++ f2) ∧ Below w.heap.size w w' :=
  implAscStart_p cs x tag tsn w h hz
theorem ascStart_bd (tag tsn : Int) (x : DAscEnd) (h : zAscEnd x ≤ 1048576) : zAscEnd (startE x tag tsn) ≤ 1048576 ∧ zL zFrmPacket (startP x tag tsn) ≤ 1048576 := start_bd x tag tsn h
end Go.Proofs.Ythdjjgbjemaabaa
