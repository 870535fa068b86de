/-
  A block of cells that the call made itself: what it holds, and how that stays. My own words; no function of the program is named.
-/
import Derived.Test.YthdjjgbjemaabaaRows
import Derived.WalkKit
import Derived.ProofKit
import Derived.OpenShut
import Derived.Below
import Derived.Deep.RegionHeld
namespace Go.Proofs.Ythdjjgbjemaabaa
open Go.ChangeShapes Go.WideShapes Go.ChangeAt Go.RowKit

/-- Block b holds the cells vs, and can be written. -/
structure Blk (w : World) (b : Nat) (vs : List Value) : Prop where
  lt : b < w.heap.size
  cell : ∀ i, w.cell? ⟨b, i, none⟩ = vs[i]?
  frozen : ∀ o, w.frozen? ⟨b, o, none⟩ = false
theorem Blk.new {w : World} {b : Nat} (c : Array Value) (t : TypeId) (hb : b = w.heap.size) : Blk (w.alloc (.cells c t)) b c.toList :=
  ⟨by subst hb; simp, fun i => by rw [World.cell?_alloc_at c t b i hb]; simp, fun o => World.frozen?_alloc_at c t b o hb⟩
theorem Blk.at {w : World} {b i : Nat} {vs : List Value} {v : Value} (h : Blk w b vs) (hv : vs[i]? = some v) : w.cell? ⟨b, i, none⟩ = some v := (h.cell i).trans hv
theorem Blk.below {B : Nat} {w w' : World} {b : Nat} {vs : List Value} (h : Blk w b vs) (hb : Below B w w') (hB : b < B) : Blk w' b vs :=
  ⟨Nat.lt_of_lt_of_le h.lt hb.size, fun i => (hb.cell (p := ⟨b, i, none⟩) hB).trans (h.cell i), fun o => (hb.frozen (p := ⟨b, o, none⟩) hB).trans (h.frozen o)⟩
theorem Blk.keep {w w' : World} {b : Nat} {vs : List Value} (h : Blk w b vs) (hb : Below w.heap.size w w') : Blk w' b vs := h.below hb h.lt
theorem Blk.alloc {w : World} {b : Nat} {vs : List Value} (h : Blk w b vs) (o : Obj) : Blk (w.alloc o) b vs := h.keep ((Below.refl _ _).alloc (Nat.le_refl _) _)
theorem Blk.drew {w : World} {b : Nat} {vs : List Value} (h : Blk w b vs) : Blk w.drew b vs := h.keep ((Below.refl _ _).drew)
theorem Blk.far {w : World} {b b' o : Nat} {vs : List Value} {v : Value} (h : Blk w b vs) (hn : b' ≠ b) : Blk (w.setCell ⟨b', o, none⟩ v) b vs :=
  ⟨by simpa [World.setCell] using h.lt, fun i => (World.cell?_setCell_far w ⟨b', o, none⟩ ⟨b, i, none⟩ v hn).trans (h.cell i), fun o' => by rw [World.frozen?_setCell]; exact h.frozen o'⟩
theorem Blk.set {w : World} {b i : Nat} {vs : List Value} {v : Value} (h : Blk w b vs) (hi : i < vs.length) : Blk (w.setCell ⟨b, i, none⟩ v) b (vs.set i v) :=
  ⟨by simpa [World.setCell] using h.lt, fun j => by
    by_cases hj : i = j
    · subst hj
      rw [List.getElem?_set_self hi]
      exact World.cell?_setCell_same w _ v (u := vs[i]) (h.at (List.getElem?_eq_getElem hi))
    · rw [List.getElem?_set_ne hj, World.cell?_setCell_other w _ _ v (fun e => hj (by injection e))]
      exact h.cell j, fun o' => by rw [World.frozen?_setCell]; exact h.frozen o'⟩
end Go.Proofs.Ythdjjgbjemaabaa
