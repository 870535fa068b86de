/-
  DatUnitOk of the program and of the model.
-/
import Derived.Test.YtokanmihelmodaaOneDatUnit
import Derived.Test.YtokanmihelmodaaPth
namespace Go.Proofs.Ytokanmihelmodaa
open Go.ChangeShapes Go.WideShapes Go.ChangeAt Go.RowKit
set_option linter.unusedVariables false

/-- Is a unit ok? -/
def unitOk (mark stream : Int) (n : Nat) : Bool := inB mark 0 1000000 && (inB stream 0 7 && inB (n : Int) 1 48)
set_option maxHeartbeats 400000 in
theorem specUnitOk_any (a0 a1 : Int) (a2 : Bool) (v : Value) (xs : List UInt8) (w : World) (hv : RdB w v xs) : Calls Try.prog 31 #[.agg #[.int .i64 a0, .int .i64 a1, .bool a2, v]] w fun e w' => e = .returned (.bool (unitOk a0 a1 xs.length)) ∧ Below w.heap.size w w' := by
  obtain ⟨A, c, rfl⟩ := hv.slice
  have hc := hv.cap
  clear hv
  generalize xs.length = n at *
  go_enter Try.func31, Try.ntmps31
  go_wp2_with (go_at_call 61; refine (l1In_any _ _ _ _).mono ?_; rintro e w' ⟨rfl, rfl⟩)
  all_goals
    go_ret
    exact ⟨ret_bool (by simp [unitOk, *]), (Below.refl _ _).alloc (Nat.le_refl _) _⟩
set_option maxHeartbeats 400000 in
theorem implUnitOk_any (a0 a1 : Int) (a2 : Bool) (v : Value) (xs : List UInt8) (w : World) (hv : RdB w v xs) : Calls Try.prog 33 #[.agg #[.int .i64 a0, .int .i64 a1, .bool a2, v]] w fun e w' => e = .returned (.bool (unitOk a0 a1 xs.length)) ∧ Below w.heap.size w w' := by
  obtain ⟨A, c, rfl⟩ := hv.slice
  have hc := hv.cap
  clear hv
  generalize xs.length = n at *
  go_enter Try.func33, Try.ntmps33
  go_wp2_with (go_at_call 64; refine (frmIn_any _ _ _ _).mono ?_; rintro e w' ⟨rfl, rfl⟩)
  all_goals
    go_ret
    exact ⟨ret_bool (by simp [unitOk, *]), (Below.refl _ _).alloc (Nat.le_refl _) _⟩
end Go.Proofs.Ytokanmihelmodaa
