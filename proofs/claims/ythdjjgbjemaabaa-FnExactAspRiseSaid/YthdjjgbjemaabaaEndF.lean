/-
  What an end of all leaves: DatEnd of both programs, over two plain functions. (Written by wip/tools/genend.py.)
-/
import Derived.Test.YthdjjgbjemaabaaCopy
import Derived.Test.YthdjjgbjemaabaaAppI
import Derived.Test.YthdjjgbjemaabaaOutOkS
import Derived.Test.YthdjjgbjemaabaaOutOkI
import Derived.Test.YthdjjgbjemaabaaSteady
namespace Go.Proofs.Ythdjjgbjemaabaa
open Go.ChangeShapes Go.WideShapes Go.ChangeAt Go.RowKit
set_option linter.unusedVariables false
set_option linter.unusedSimpArgs false

def endStep (ms : List Int) (m : Int) : List Int := if ms.getLast? = some m then ms else ms ++ [m]
def endMarks (fl : List DDatSent) : List Int := fl.foldl (fun ms s => endStep ms s.xMark) []
noncomputable def endUnits (x : DDatOut) : List DDatUnit := if outOk x = true then x.xQueue else []
noncomputable def endMs (x : DDatOut) : List Int := if outOk x = true then endMarks x.xFlight else []
theorem endStep_nil {m : Int} : endStep [] m = [] ++ [m] := by simp [endStep]
theorem endStep_last {ms : List Int} {m : Int} {k : Nat} (h : ms.length = k + 1) : (ms[k] = m → endStep ms m = ms) ∧ (¬ ms[k] = m → endStep ms m = ms ++ [m]) := by
  have h1 : ms.getLast? = some ms[k] := by
    rw [List.getLast?_eq_getElem?, show ms.length - 1 = k by omega]
    exact List.getElem?_eq_getElem (by omega)
  constructor <;> intro h2 <;> simp [endStep, h1, h2]
theorem endMarks_succ {fl : List DDatSent} {j : Nat} (h : j < fl.length) : endMarks (fl.take (j + 1)) = endStep (endMarks (fl.take j)) fl[j].xMark := by
  unfold endMarks
  rw [List.take_succ_eq_append_getElem h, List.foldl_append]
  rfl
theorem endStep_len (ms : List Int) (m : Int) : (endStep ms m).length ≤ ms.length + 1 := by unfold endStep; split <;> simp
theorem endFold_len (fl : List DDatSent) : ∀ ms : List Int, (fl.foldl (fun ms s => endStep ms s.xMark) ms).length ≤ ms.length + fl.length := by
  induction fl with
  | nil => intro ms; simp
  | cons s fl ih => intro ms; have h1 := ih (endStep ms s.xMark); have h2 := endStep_len ms s.xMark; simp only [List.foldl_cons, List.length_cons]; omega
theorem endMarks_len (fl : List DDatSent) : (endMarks fl).length ≤ fl.length := by have := endFold_len fl []; simpa [endMarks] using this
theorem Nw.app2 {lo mid hi : Nat} {f g : List Nat} (h : Nw lo mid g) (k : Nw mid hi f) (h1 : lo ≤ mid) (h2 : mid ≤ hi) : Nw lo hi (f ++ g) := by
  refine ⟨List.nodup_append.2 ⟨k.1, h.1, fun a ha b hb => ?_⟩, fun b hb => ?_⟩
  · have := (k.2 a ha).1; have := (h.2 b hb).2; omega
  · rcases List.mem_append.1 hb with hb | hb
    · have := k.2 b hb; omega
    · have := h.2 b hb; omega
theorem datEnd_bd (x : DDatOut) (h : zDatOut x ≤ 1048576) : zL zDatUnit (endUnits x) ≤ 1048576 ∧ (endMs x).length ≤ 1048576 := by
  have h1 := endMarks_len x.xFlight
  unfold zDatOut at h
  unfold endUnits endMs
  split
  · refine ⟨by omega, ?_⟩
    have h2 : x.xFlight.length ≤ zL zDatSent x.xFlight := by unfold zL; omega
    omega
  · exact ⟨by simp [zL, szL], by simp⟩
end Go.Proofs.Ythdjjgbjemaabaa
