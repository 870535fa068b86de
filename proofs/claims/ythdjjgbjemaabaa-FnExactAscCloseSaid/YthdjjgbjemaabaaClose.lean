/-
  AscClose of both programs. (Written by wip/tools/genstart.py.)
-/
import Derived.Test.YthdjjgbjemaabaaCloseS
import Derived.Test.YthdjjgbjemaabaaCloseI
namespace Go.Proofs.Ythdjjgbjemaabaa
open Go.ChangeShapes Go.WideShapes Go.ChangeAt Go.RowKit
set_option linter.unusedVariables false
set_option linter.unusedSimpArgs false

theorem specAscClose_n (at_ : Int) (hard : Bool) (cs : List Value) (x : DAscEnd) (w : World) (h : FAscEnd w cs x) (hz : zAscEnd x ≤ 1048576) : Calls Try.prog 48 #[.agg cs.toArray, .int .i64 at_, .bool hard] w fun e w' => ∃ cs' v' f1 f2, e = .returned (.tuple #[.agg cs'.toArray, v', .int .i64 (closeK x at_ hard)]) ∧ EAscEnd w' f1 cs' (closeE x at_ hard) ∧ OwFrmPacketS w' f2 v' (closeP x at_ hard) ∧ Nw w.heap.size w'.heap.size (f1 ++ f2) ∧ Below w.heap.size w w' :=
  specAscClose_p cs x at_ hard w h hz

theorem implAscClose_n (at_ : Int) (hard : Bool) (cs : List Value) (x : DAscEnd) (w : World) (h : FAscEnd w cs x) (hz : zAscEnd x ≤ 1048576) : Calls Try.prog 50 #[.agg cs.toArray, .int .i64 at_, .bool hard] w fun e w' => ∃ cs' v' f1 f2, e = .returned (.tuple #[.agg cs'.toArray, v', .int .i64 (closeK x at_ hard)]) ∧ EAscEnd w' f1 cs' (closeE x at_ hard) ∧ OwFrmPacketS w' f2 v' (closeP x at_ hard) ∧ Nw w.heap.size w'.heap.size (f1 ++ f2) ∧ Below w.heap.size w w' :=
  implAscClose_p cs x at_ hard w h hz
theorem ascClose_bd (at_ : Int) (hard : Bool) (x : DAscEnd) (h : zAscEnd x ≤ 1048576) : zAscEnd (closeE x at_ hard) ≤ 1048576 ∧ zL zFrmPacket (closeP x at_ hard) ≤ 1048576 := close_bd x at_ hard h
end Go.Proofs.Ythdjjgbjemaabaa
