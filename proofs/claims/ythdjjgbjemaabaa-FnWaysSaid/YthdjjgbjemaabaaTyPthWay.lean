/-
  Words and the laws' helpers of PthWay and of lists of it. (Written by wip/tools/gentype.py.)
-/
import Derived.Test.YthdjjgbjemaabaaKin
namespace Go.Proofs.Ythdjjgbjemaabaa
open Go.ChangeShapes Go.WideShapes Go.ChangeAt Go.RowKit
set_option linter.unusedVariables false
set_option linter.unusedSimpArgs false

structure DPthWay where
  xAddr : Int
  xOn : Bool
  xErrors : Int
  xSrtt : Int
  xVar : Int
  xRto : Int
def FPthWay (w : World) (cs : List Value) (x : DPthWay) : Prop := cs = [.int .i64 x.xAddr, .bool x.xOn, .int .i64 x.xErrors, .int .i64 x.xSrtt, .int .i64 x.xVar, .int .i64 x.xRto]
def EPthWay (w : World) (f : List Nat) (cs : List Value) (x : DPthWay) : Prop := cs = [.int .i64 x.xAddr, .bool x.xOn, .int .i64 x.xErrors, .int .i64 x.xSrtt, .int .i64 x.xVar, .int .i64 x.xRto] ∧ f = []
theorem FPthWay.below {w w' : World} {cs : List Value} {x : DPthWay} (h : FPthWay w cs x) (hb : Below w.heap.size w w') : FPthWay w' cs x := by
  exact h
theorem EPthWay.framed : Framed EPthWay := by
  rintro w w' f cs x ⟨rfl, rfl⟩ hb
  exact ⟨rfl, rfl⟩
theorem EPthWay.inside : Inside EPthWay := by
  rintro w f cs x ⟨rfl, rfl⟩ b hb
  cases hb
theorem EPthWay.rd {w : World} {f : List Nat} {cs : List Value} {x : DPthWay} (h : EPthWay w f cs x) : FPthWay w cs x := by
  obtain ⟨rfl, rfl⟩ := h
  exact rfl
abbrev RdPthWayS (w : World) (v : Value) (xs : List DPthWay) : Prop := RdS 6 FPthWay w v xs
def OwPthWayS (w : World) (f : List Nat) (v : Value) (xs : List DPthWay) : Prop := OwL 24 6 EPthWay w f v xs
theorem RdPthWayS.below {w w' : World} {v : Value} {xs : List DPthWay} (h : RdPthWayS w v xs) (hb : Below w.heap.size w w') : RdPthWayS w' v xs := RdS.below (fun _ _ h => h.below hb) h hb
theorem RdPthWayS.slice {w : World} {v : Value} {xs : List DPthWay} (h : RdPthWayS w v xs) : ∃ A c, v = .slice A xs.length c := RdS.slice h
theorem OwPthWayS.keep {w w' : World} {f : List Nat} {v : Value} {xs : List DPthWay} (h : OwPthWayS w f v xs) (hb : ∀ b ∈ f, w'.heap[b]? = w.heap[b]?) : OwPthWayS w' f v xs := OwL.keep EPthWay.framed h hb
theorem OwPthWayS.inside {w : World} {f : List Nat} {v : Value} {xs : List DPthWay} (h : OwPthWayS w f v xs) : ∀ b ∈ f, b < w.heap.size := OwL.inside EPthWay.inside h
theorem OwPthWayS.rd {w : World} {f : List Nat} {v : Value} {xs : List DPthWay} (h : OwPthWayS w f v xs) : RdPthWayS w v xs := OwL.rd (fun _ _ _ h => h.rd) h

theorem info_PthWay : (Try.prog.info? 24).map (fun i => (i.zero, i.size)) = some (some (.agg #[.int .i64 0, .bool false, .int .i64 0, .int .i64 0, .int .i64 0, .int .i64 0]), 6) := by kernel_rfl
theorem infob_PthWay : (match Try.prog.info? 24 with | some i => decide (i.bytes ≤ 4096) | none => false) = true := by kernel_rfl

end Go.Proofs.Ythdjjgbjemaabaa
