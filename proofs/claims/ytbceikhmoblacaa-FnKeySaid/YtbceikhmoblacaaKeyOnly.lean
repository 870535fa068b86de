/-
  A destination is of one range at most: what keys that are ok tell of a match; where a choice goes. No function of the program is named but by their contracts.
-/
import Derived.Test.YtbceikhmoblacaaKeyMatch
import Derived.Test.YtbceikhmoblacaaKey
namespace Go.Proofs.Ytbceikhmoblacaa
open Go.ChangeShapes Go.WideShapes Go.ChangeAt Go.RowKit
set_option linter.unusedVariables false

theorem keyAt_cases (d : Int) : ∀ (xs : List DKeyRow) (i : Nat), (keyAt d i xs = -1 ∧ ∀ j (hj : j < xs.length), inB d xs[j].xLow xs[j].xHigh = false) ∨ (∃ j, ∃ hj : j < xs.length, keyAt d i xs = ((i + j : Nat) : Int) ∧ inB d xs[j].xLow xs[j].xHigh = true)
  | [], _ => .inl ⟨rfl, fun j hj => by simp at hj⟩
  | k :: ks, i => by
    by_cases h : inB d k.xLow k.xHigh = true
    · exact .inr ⟨0, by simp, by simp [keyAt, h], h⟩
    · have hf : inB d k.xLow k.xHigh = false := by simpa using h
      have he : keyAt d i (k :: ks) = keyAt d (i + 1) ks := by simp [keyAt, hf]
      rw [he]
      rcases keyAt_cases d ks (i + 1) with ⟨h1, h2⟩ | ⟨j, hj, h1, h2⟩
      · refine .inl ⟨h1, fun j hj => ?_⟩
        cases j with
        | zero => exact hf
        | succ j => exact h2 j (by simpa using hj)
      · refine .inr ⟨j + 1, by simpa using hj, by rw [h1]; congr 1; omega, h2⟩
theorem key_apart {xs : List DKeyRow} (h : keyOkF xs = true) {i j : Nat} (hi : i < j) (hj : j < xs.length) : behind (xs[i]'(by omega)) xs[j] = true := by
  unfold keyOkF at h
  rw [Bool.and_eq_true] at h
  have h1 := allI_at h.2 hj
  unfold keyGood at h1
  rw [Bool.and_eq_true] at h1
  have h2 := allI_at h1.2 (j := i) (by simp; omega)
  simpa using h2
theorem key_two {xs : List DKeyRow} {d : Int} (h : keyOkF xs = true) {i j : Nat} (hi : i < j) (hj : j < xs.length) (h1 : inB d (xs[i]'(by omega)).xLow (xs[i]'(by omega)).xHigh = true) (h2 : inB d xs[j].xLow xs[j].xHigh = true) : False := by
  have h3 := key_apart h hi hj
  unfold behind at h3
  rw [inB_iff] at h1 h2
  simp at h3
  omega
/-- The one that is told has the destination, and no other one has. -/
theorem key_only {xs : List DKeyRow} {d : Int} (h : keyOkF xs = true) {j : Nat} (hj : j < xs.length) : decide ((j : Int) = keyMatchF xs d) = inB d xs[j].xLow xs[j].xHigh := by
  unfold keyMatchF
  rw [if_pos h]
  rcases keyAt_cases d xs 0 with ⟨h1, h2⟩ | ⟨m, hm, h1, h2⟩
  · rw [h1, h2 j hj, decide_eq_false_iff_not]
    omega
  · rw [h1]
    rcases Nat.lt_trichotomy j m with hl | rfl | hl
    · have h3 : inB d xs[j].xLow xs[j].xHigh = false := by
        cases h4 : inB d xs[j].xLow xs[j].xHigh with
        | false => rfl
        | true => exact (key_two h hl hm h4 h2).elim
      rw [h3, decide_eq_false_iff_not]
      omega
    · rw [h2, decide_eq_true_eq]
      omega
    · have h3 : inB d xs[j].xLow xs[j].xHigh = false := by
        cases h4 : inB d xs[j].xLow xs[j].xHigh with
        | false => rfl
        | true => exact (key_two h hl hj h2 h4).elim
      rw [h3, decide_eq_false_iff_not]
      omega
end Go.Proofs.Ytbceikhmoblacaa
