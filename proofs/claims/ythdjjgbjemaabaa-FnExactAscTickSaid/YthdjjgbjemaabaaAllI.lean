/-
  Whether all of a list are good, each at its place; and how a loop over it comes to that. My own words; no function of the program is named.
-/
import Derived.Test.YthdjjgbjemaabaaKin
import Derived.Test.YthdjjgbjemaabaaPth
import Derived.Test.YthdjjgbjemaabaaSteady
namespace Go.Proofs.Ythdjjgbjemaabaa
open Go.ChangeShapes Go.WideShapes Go.ChangeAt Go.RowKit

noncomputable def allI {α : Type} (p : Nat → α → Bool) (xs : List α) : Bool := @decide (∀ j x, xs[j]? = some x → p j x = true) (Classical.propDecidable _)
section
variable {α : Type} {p : Nat → α → Bool} {xs : List α}
theorem allI_bad {j : Nat} (hj : j < xs.length) (h : p j xs[j] = false) : allI p xs = false := by
  unfold allI
  refine @decide_eq_false _ (Classical.propDecidable _) (fun hh => ?_)
  rw [hh j xs[j] (List.getElem?_eq_getElem hj)] at h
  cases h
theorem allI_good (h : ∀ j (hj : j < xs.length), p j xs[j] = true) : allI p xs = true := by
  unfold allI
  refine @decide_eq_true _ (Classical.propDecidable _) (fun j x hx => ?_)
  obtain ⟨hj, rfl⟩ := List.getElem?_eq_some_iff.1 hx
  exact h j hj
theorem allI_at (h : allI p xs = true) {j : Nat} (hj : j < xs.length) : p j xs[j] = true := by
  unfold allI at h
  exact @of_decide_eq_true _ (Classical.propDecidable _) h j xs[j] (List.getElem?_eq_getElem hj)
theorem allI_not (h : allI p xs = false) : ∃ j, ∃ hj : j < xs.length, p j xs[j] = false := by
  unfold allI at h
  have h1 := @of_decide_eq_false _ (Classical.propDecidable _) h
  refine Classical.byContradiction fun hn => h1 fun j x hx => ?_
  obtain ⟨hj, rfl⟩ := List.getElem?_eq_some_iff.1 hx
  cases hp : p j xs[j] with
  | true => rfl
  | false => exact absurd ⟨j, hj, hp⟩ hn
/-- All ahead of place j are good. -/
def UpTo (p : Nat → α → Bool) (xs : List α) (j : Nat) : Prop := ∀ i (hi : i < xs.length), i < j → p i xs[i] = true
theorem UpTo.zero : UpTo p xs 0 := fun _ _ h => by omega
theorem UpTo.succ {j : Nat} (h : UpTo p xs j) (hj : j < xs.length) (hp : p j xs[j] = true) : UpTo p xs (j + 1) := fun i hi hij => by
  by_cases he : i = j
  · subst he; exact hp
  · exact h i hi (by omega)
theorem UpTo.done {j : Nat} (h : UpTo p xs j) (hj : xs.length ≤ j) : allI p xs = true := allI_good (fun i hi => h i hi (by omega))
end
theorem cellKeep {w w' : World} {p : Addr} {v : Value} (h : w.cell? p = some v) (hb : Below w.heap.size w w') : w'.cell? p = some v := (hb.cell (World.block_lt_of_cell? w _ h)).trans h
theorem belowOn {B : Nat} {w0 w w' : World} (h : Below B w0 w) (hB : B ≤ w.heap.size) (hb : Below w.heap.size w w') : Below B w0 w' := h.trans (hb.mono hB)
end Go.Proofs.Ythdjjgbjemaabaa
