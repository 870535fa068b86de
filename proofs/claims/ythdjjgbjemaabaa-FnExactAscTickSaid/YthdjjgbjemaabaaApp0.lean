/-
  append of numbers onto a list literal without elements ('append([]int{}, xs...)'): nothing that was there turns. My own words, over the library's laws of append.
-/
import Derived.Test.YthdjjgbjemaabaaAppI
import Derived.Deep.AppendSrc
namespace Go.Proofs.Ythdjjgbjemaabaa
open Go.ChangeShapes Go.WideShapes Go.ChangeAt Go.RowKit
set_option linter.unusedVariables false

set_option maxRecDepth 100000 in
theorem run_app0 (w : World) (ty : TypeId) (b : Nat) {u : Value} {ys : List Int} (hrd : RdI w u ys) (hlen : ys.length ≤ 1048576) :
    ∃ v' w', (Builtin.append_ #[35, 35] ty #[.slice (some ⟨b, 0, none⟩) 0 0, u]).run Try.prog w = .ok v' w' ∧
      ((ys = [] ∧ v' = .slice (some ⟨b, 0, none⟩) 0 0 ∧ w' = w) ∨ (OwIn w' [w.heap.size] v' ys ∧ Nw w.heap.size w'.heap.size [w.heap.size] ∧ Below w.heap.size w w')) := by
  obtain ⟨i0, hi0, hz0, hz1, hz2⟩ := info_parts info_int
  have ht := Try.underlying35
  obtain ⟨A, c, rfl, _, hc⟩ := hrd
  have hsrc : Src Try.prog i0.size 35 (.slice A ys.length c) ys.length (ys.map itv) w := by
    rw [hz1]
    rcases A with _ | ad
    · have hy : ys = [] := by
        rcases ys with _ | ⟨y, ys⟩
        · rfl
        · obtain ⟨_, h, _⟩ := hc 0 y rfl; cases h
      subst hy
      exact Src.ofNil w ht c
    · refine Src.ofSlice w ht ad ys.length c (ys.map itv) (by simp) (fun j z hz => ?_) (itv_one ys)
      rw [List.getElem?_map] at hz
      obtain ⟨y, hy, rfl⟩ := Option.map_eq_some_iff.1 hz
      obtain ⟨ad', h, hcell⟩ := hc j y hy
      injection h with h
      subst h
      exact hcell
  by_cases hy : ys = []
  · subst hy
    have h1 := run_append_room_src w 35 35 ty 3 i0 ht hi0 b 0 0 0 _ _ _ hsrc (by simp) (by simp) (by simp)
    exact ⟨_, _, h1, .inl ⟨rfl, by simp, rfl⟩⟩
  · have hpos : 0 < ys.length := List.length_pos_iff.2 hy
    have h1 := run_append_grow_src w 35 35 ty 3 i0 (.int .i64 0) ht hi0 hz0 (some ⟨b, 0, none⟩) 0 0 [] (run_firstCells_some w.drew i0.size 0 ⟨b, 0, none⟩ 0 0 [] (by simp) (by simp)) _ _ _ hsrc (by omega) (by omega)
      (by rw [Nat.zero_add, nextslicecap_zero (by omega), hz2]; omega)
    rw [Nat.zero_add, List.nil_append] at h1
    have hge := grownCap_ge w ys.length 0 3
    have hcm : grownCap w ys.length 0 3 ≤ maxLen := grownCap_le_maxLen w ys.length 0 3 (by simp only [maxLen]; omega)
    refine ⟨_, _, h1, .inr ⟨⟨⟨by simp, .inr ⟨w.heap.size, _, _, rfl, Nat.zero_le _, heap_alloc_new w.drew _, hge, hcm, ?_, ?_⟩⟩, by simp [Value.ownBlock]⟩, ⟨by simp, by simp⟩, ((Below.refl _ _).drew).alloc (Nat.le_refl _) _⟩⟩
    · simp only [Array.size_append, List.size_toArray, size_zeroCells, List.length_map, Value.cells]
      simp
      omega
    · simp only [Array.toList_append]
      rw [List.take_append_of_le_length (by simp), List.take_of_length_le (by simp)]
end Go.Proofs.Ythdjjgbjemaabaa
