/-
  Words and the laws' helpers of KeyRow and of lists of it. (Written by wip/tools/gentype.py.)
-/
import Derived.Test.YthdjjgbjemaabaaKin
namespace Go.Proofs.Ythdjjgbjemaabaa
open Go.ChangeShapes Go.WideShapes Go.ChangeAt Go.RowKit
set_option linter.unusedVariables false
set_option linter.unusedSimpArgs false

structure DKeyRow where
  xCtx : Int
  xLow : Int
  xHigh : Int
  xMode : Int
def FKeyRow (w : World) (cs : List Value) (x : DKeyRow) : Prop := cs = [.int .i64 x.xCtx, .int .i64 x.xLow, .int .i64 x.xHigh, .int .i64 x.xMode]
def EKeyRow (w : World) (f : List Nat) (cs : List Value) (x : DKeyRow) : Prop := cs = [.int .i64 x.xCtx, .int .i64 x.xLow, .int .i64 x.xHigh, .int .i64 x.xMode] ∧ f = []
theorem FKeyRow.below {w w' : World} {cs : List Value} {x : DKeyRow} (h : FKeyRow w cs x) (hb : Below w.heap.size w w') : FKeyRow w' cs x := by
  exact h
theorem EKeyRow.framed : Framed EKeyRow := by
  rintro w w' f cs x ⟨rfl, rfl⟩ hb
  exact ⟨rfl, rfl⟩
theorem EKeyRow.inside : Inside EKeyRow := by
  rintro w f cs x ⟨rfl, rfl⟩ b hb
  cases hb
theorem EKeyRow.rd {w : World} {f : List Nat} {cs : List Value} {x : DKeyRow} (h : EKeyRow w f cs x) : FKeyRow w cs x := by
  obtain ⟨rfl, rfl⟩ := h
  exact rfl
abbrev RdKeyRowS (w : World) (v : Value) (xs : List DKeyRow) : Prop := RdS 4 FKeyRow w v xs
theorem RdKeyRowS.below {w w' : World} {v : Value} {xs : List DKeyRow} (h : RdKeyRowS w v xs) (hb : Below w.heap.size w w') : RdKeyRowS w' v xs := RdS.below (fun _ _ h => h.below hb) h hb
theorem RdKeyRowS.slice {w : World} {v : Value} {xs : List DKeyRow} (h : RdKeyRowS w v xs) : ∃ A c, v = .slice A xs.length c := RdS.slice h
end Go.Proofs.Ythdjjgbjemaabaa
