/-
  A book at its beginning, as a plain function. (Written by wip/tools/genopenb.py.)
-/
import Derived.Test.YthdjjgbjemaabaaBookS
namespace Go.Proofs.Ythdjjgbjemaabaa
open Go.ChangeShapes Go.WideShapes Go.ChangeAt Go.RowKit
set_option linter.unusedVariables false
set_option linter.unusedSimpArgs false

def zeroG (g : Int) : DAspGate := ⟨g, false, [], [], [], 0⟩
def emptyBook : DAspBook := ⟨[], []⟩
def openBook (wi ga : List Int) : DAspBook := ⟨wi, ga.map zeroG⟩
noncomputable def aspOpenF (wi ga : List Int) : DAspBook := if aspOk (openBook wi ga) = true then openBook wi ga else emptyBook
noncomputable def aspOpenB (wi ga : List Int) : Bool := aspOk (openBook wi ga)
theorem open_yes {wi ga : List Int} (h : aspOk (openBook wi ga) = true) : aspOpenF wi ga = openBook wi ga ∧ aspOpenB wi ga = true := by simp [aspOpenF, aspOpenB, h]
theorem open_no {wi ga : List Int} (h : aspOk (openBook wi ga) = false) : aspOpenF wi ga = emptyBook ∧ aspOpenB wi ga = false := by simp [aspOpenF, aspOpenB, h]
theorem zeroG_e (w : World) (g : Int) : EAspGate w [] [.int .i64 g, .bool false, .slice none 0 0, .slice none 0 0, .slice none 0 0, .int .i64 0] (zeroG g) :=
  ⟨_, _, _, [], [], [], rfl, OwIn.nil _, OwIn.nil _, OwIn.nil _, rfl⟩
theorem zG_map (ga : List Int) : szL zAspGate (ga.map zeroG) = 0 := by
  induction ga with
  | nil => rfl
  | cons a ga ih => simp [szL, ih, zeroG, zAspGate]
theorem zOpen {wi ga : List Int} (h : aspOk (openBook wi ga) = true) : zAspBook (openBook wi ga) ≤ 1048576 := by
  unfold aspOk at h
  simp only [Bool.and_eq_true, decide_eq_true_eq] at h
  have h1 : wi.length ≤ 4 := h.2.1
  have h2 : (ga.map zeroG).length ≤ 2 := h.2.2.1
  rw [List.length_map] at h2
  simp only [zAspBook, openBook, zL, zG_map, List.length_map]; omega
theorem zOpenG {wi ga : List Int} {j : Nat} {g : DAspGate} (h : (openBook wi ga).xGates[j]? = some g) : g.xActive.length ≤ 1048576 ∧ g.xAsked.length ≤ 1048576 ∧ g.xOff.length ≤ 1048576 := by
  simp only [openBook, List.getElem?_map] at h
  obtain ⟨a, _, rfl⟩ := Option.map_eq_some_iff.1 h
  simp [zeroG]
theorem aspOpen_bd (wi ga : List Int) (_ : wi.length ≤ 1048576) (_ : ga.length ≤ 1048576) : zAspBook (aspOpenF wi ga) ≤ 1048576 := by
  rcases h : aspOk (openBook wi ga) with _ | _
  · rw [(open_no h).1]; decide
  · rw [(open_yes h).1]; exact zOpen h
theorem zB_open (wi ga : List Int) (h0 : wi.length ≤ 524288) (h1 : ga.length ≤ 524288) : zAspBook (openBook wi ga) ≤ 1048576 := by
  simp only [zAspBook, openBook, zL, zG_map, List.length_map]; omega
end Go.Proofs.Ythdjjgbjemaabaa
