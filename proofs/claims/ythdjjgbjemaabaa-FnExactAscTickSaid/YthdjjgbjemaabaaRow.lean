/-
  The last step of every law: a call that returns true and leaves all that was there as it was keeps the law's row. My own general form, for any number and kind of arguments.
-/
import Derived.Test.YthdjjgbjemaabaaRows
import Derived.WalkKit
import Derived.ProofKit
import Derived.OpenShut
import Derived.Below
import Derived.Carry
import Derived.Test.YthdjjgbjemaabaaMem
import Derived.Test.YthdjjgbjemaabaaOwn
import Derived.Deep.Slices
namespace Go.Proofs.Ythdjjgbjemaabaa
open Go.ChangeShapes Go.WideShapes Go.ChangeAt Go.RowKit

theorem ownKnob_none : ownKnob Try.prog.godebug = none := by kernel_rfl
theorem laidOut : laidOutB Try.prog = true := by kernel_rfl

section
variable {H : Type} {enc : TypeId × Value → H} {P : Program}
/-- All arguments read behind the call as they did, if nothing below the heap's old size has turned. -/
theorem args_stay (hl : laidOutB P = true) {W W' : World} (hb : Below W.heap.size W W') : ∀ {ts : List TypeId} {vs : List Value} {ds : List (DataW H)} {ps : List MemPlace},
    (∀ t ∈ ts, P.readableRec t = true ∧ t < P.types.size) → DataW.TrodAll enc P W 0 (fun _ => true) true ts vs ds ps → (∀ x ∈ ps, x.block < W.heap.size) →
    DataW.TrodAll enc P W' 0 (fun b => decide (b < W.heap.size)) true ts vs ds ps
  | [], vs, ds, ps, _, h, _ => by
    obtain ⟨rfl, rfl, rfl⟩ := trodAll_nil h
    exact trodAll_mk0
  | t :: ts, vs, ds, ps, hr, h, hlt => by
    obtain ⟨v, vs', d, ds', p, q, rfl, rfl, rfl, h0, r⟩ := trodAll_cons h
    exact trodAll_cons_mk (Below.trod hl (hr t (by simp)).1 (hr t (by simp)).2 h0 hb (fun x hx => hlt x (by simp [hx])))
      (args_stay hl hb (fun t' ht' => hr t' (by simp [ht'])) r (fun x hx => hlt x (by simp [hx])))

/-- What a law's row asks behind the call. -/
theorem law_post {f : Func} {s : ChangeSpec} {apart fresh handsOn : Bool} {W W' : World} {args : Array Value} {ds gs : List (DataW H)} {before : List MemPlace} {tb : TypeId}
    (hl : laidOutB P = true) (hpar : ∀ t ∈ f.params.toList, P.readableRec t = true ∧ t < P.types.size) (hvars : s.vars = []) (hres : f.resultTypes = #[tb]) (htb : P.underlying tb = some .bool)
    (hfn : ∀ gs' : List (DataW H), gs' = [] → s.fn H (ds ++ gs') = { results := [.lit (.bool true)], args := ds })
    (hW : DataW.Whole enc P f.params.toList s.vars apart W args.toList ds gs before) (hb : Below W.heap.size W W') :
    s.post enc P f apart fresh handsOn false W args (.bool true) W' := by
  have hlt : ∀ x ∈ before, x.block < W.heap.size := fun x hx => hW.lt x hx
  obtain ⟨p, q, hA, hV, rfl, _, _⟩ := id hW
  rw [hvars] at hV
  obtain ⟨rfl, rfl⟩ := trodVars_none hV
  have hs := hfn [] rfl
  refine ⟨ds, [], p ++ [], [], p, [], hW, ?_, ?_, ?_, World.keptBut_mono (fun x hx => ⟨hx, .inr (.inl (by simpa using hx))⟩) (hb.frame (· ∈ p ++ [])), fun h => by cases h⟩
  · rw [hs, hres]
    exact trodAll_mk1 (shut_bool htb _)
  · rw [hs]
    exact args_stay hl hb hpar hA (fun x hx => hlt x (by simp [hx]))
  · rw [hs, hvars]
    rfl
end

theorem cellsByte : Try.prog.cellsOf 5 = 1 := by kernel_rfl
set_option maxRecDepth 100000 in
/-- An argument of bytes reads as a list of them. -/
theorem open_bytes {H : Type} {enc : TypeId × Value → H} {w : World} {base b0 : Nat} {r : Reach} {spare : Nat → Bool} {held : Bool} {v : Value} {d : DataW H} {ps : List MemPlace}
    (hval : Value.okWide Try.prog w r b0 22 v) (h : DataW.Trod enc Try.prog w base spare held 22 v d ps) : ∃ xs, RdB w v xs := by
  obtain ⟨A, n, c, rfl⟩ := okWide_slice Try.underlying22 hval
  obtain ⟨fuel, hf⟩ := h
  rcases Deep.open_slice1 Try.underlying22 cellsByte hf with ⟨h0, _⟩ | ⟨a, len, cap, m, k, V, D, Pl, h0, _, hl, hm, hmm, _, hx⟩
  · simp [Value.cells] at h0
    obtain ⟨rfl, rfl, rfl⟩ := h0
    exact ⟨[], none, 0, rfl, ⟨by simp, by decide⟩, by simp⟩
  · simp [Value.cells] at h0
    obtain ⟨rfl, rfl, rfl⟩ := h0
    have hb : ∀ i, i < n → ∃ x : UInt8, w.cell? (a.add i) = some (byt x) := fun i hi => by
      obtain ⟨h1, h2⟩ := hx i (by rw [hmm]; split <;> omega)
      obtain ⟨q, h3, _, hw⟩ := DataW.trod_int Try.underlying5 h2
      simp at h3
      have hq := bounds_u8 hw
      refine ⟨UInt8.ofNat q.toNat, ?_⟩
      rw [h1, h3, byt, UInt8.toNat_ofNat']
      congr 2
      omega
    obtain ⟨X, hX⟩ := Deep.choose_lt (α := UInt8) (p := fun i x => w.cell? (a.add i) = some (byt x)) hb
    refine ⟨(List.range n).map X, some a, c, by simp, ⟨by simpa using hl, hm⟩, fun j x hj => ⟨a, rfl, ?_⟩⟩
    rw [List.getElem?_map] at hj
    obtain ⟨i, hi, rfl⟩ := Option.map_eq_some_iff.1 hj
    obtain ⟨h1, rfl⟩ := List.getElem?_eq_some_iff.1 hi
    simp at h1 ⊢
    exact hX j h1

section
variable {H : Type} {enc : TypeId × Value → H} {w : World} {base : Nat} {spare : Nat → Bool} {held : Bool}
/-- A slice whose elements can be read reads as a list. -/
theorem open_rds {P : Program} {α : Type} {E : World → List Value → α → Prop} {t e : TypeId} {m fuel : Nat} {v : Value} {y : DataW H × List MemPlace} (ht : P.underlying t = some (.slice e)) (hC : P.cellsOf e = m)
    (hE : ∀ n cs y, cs.length = m → DataW.trod enc P w base spare held n e cs = some y → ∃ x : α, E w cs x) (h : DataW.trod enc P w base spare held fuel t [v] = some y) : ∃ xs, RdS m E w v xs := by
  rcases Deep.open_slice ht h with ⟨h0, _⟩ | ⟨a, len, cap, k, n, D, Pl, h0, _, hl, hm, hk, _, hx⟩
  · injection h0 with h0; subst h0
    exact ⟨[], none, 0, rfl, ⟨by simp, by decide⟩, by simp⟩
  · injection h0 with h0; subst h0
    have hb : ∀ i, i < len → ∃ x : α, ∃ cs, cs.length = m ∧ CellsAt w (a.add (i * m)) cs ∧ E w cs x := fun i hi => by
      obtain ⟨cs, h1, h2⟩ := hx i (by rw [hk]; split <;> omega)
      rw [hC] at h1
      obtain ⟨_, h3, h4⟩ := World.cells?_some h1
      obtain ⟨x, h5⟩ := hE _ _ _ h3 h2
      exact ⟨x, cs, h3, fun p u hu => by rw [h4 p (by rw [← h3]; exact (List.getElem?_eq_some_iff.1 hu).1)]; exact hu, h5⟩
    by_cases hlen : len = 0
    · subst hlen
      exact ⟨[], some a, cap, rfl, ⟨by simp, hm⟩, by simp⟩
    · obtain ⟨x0, _⟩ := hb 0 (by omega)
      have : Nonempty α := ⟨x0⟩
      have hb' : ∀ i, ∃ x : α, i < len → ∃ cs, cs.length = m ∧ CellsAt w (a.add (i * m)) cs ∧ E w cs x := fun i => by
        by_cases hi : i < len
        · obtain ⟨x, hx⟩ := hb i hi; exact ⟨x, fun _ => hx⟩
        · exact ⟨x0, fun h => absurd h hi⟩
      refine ⟨(List.range len).map (fun i => Classical.choose (hb' i)), some a, cap, by simp, ⟨by simpa using hl, hm⟩, fun j x hj => ?_⟩
      rw [List.getElem?_map] at hj
      obtain ⟨i, hi, rfl⟩ := Option.map_eq_some_iff.1 hj
      obtain ⟨h1, rfl⟩ := List.getElem?_eq_some_iff.1 hi
      simp at h1 ⊢
      exact Classical.choose_spec (hb' j) h1
set_option maxRecDepth 100000 in
theorem open_rdb {fuel : Nat} {v : Value} {y : DataW H × List MemPlace} (h : DataW.trod enc Try.prog w base spare held fuel 22 [v] = some y) : ∃ xs, RdB w v xs := by
  rcases Deep.open_slice1 Try.underlying22 cellsByte h with ⟨h0, _⟩ | ⟨a, len, cap, m, k, V, D, Pl, h0, _, hl, hm, hmm, _, hx⟩
  · injection h0 with h0; subst h0
    exact ⟨[], none, 0, rfl, ⟨by simp, by decide⟩, by simp⟩
  · injection h0 with h0; subst h0
    have hb : ∀ i, i < len → ∃ x : UInt8, w.cell? (a.add i) = some (byt x) := fun i hi => by
      obtain ⟨h1, h2⟩ := hx i (by rw [hmm]; split <;> omega)
      obtain ⟨q, h3, _, hw⟩ := DataW.trod_int Try.underlying5 h2
      simp at h3
      have hq := bounds_u8 hw
      refine ⟨UInt8.ofNat q.toNat, ?_⟩
      rw [h1, h3, byt, UInt8.toNat_ofNat']
      congr 2
      omega
    obtain ⟨X, hX⟩ := Deep.choose_lt (α := UInt8) (p := fun i x => w.cell? (a.add i) = some (byt x)) hb
    refine ⟨(List.range len).map X, some a, cap, by simp, ⟨by simpa using hl, hm⟩, fun j x hj => ⟨a, rfl, ?_⟩⟩
    rw [List.getElem?_map] at hj
    obtain ⟨i, hi, rfl⟩ := Option.map_eq_some_iff.1 hj
    obtain ⟨h1, rfl⟩ := List.getElem?_eq_some_iff.1 hi
    simp at h1 ⊢
    exact hX j h1
end

end Go.Proofs.Ythdjjgbjemaabaa
