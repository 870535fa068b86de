/-
  Marks that the laws lay into owned memory, and hold it against: bytes, numbers, and one element of an owned row, cell by cell. My own words.
-/
import Derived.Test.YthdjjgbjemaabaaKin
namespace Go.Proofs.Ythdjjgbjemaabaa
open Go.ChangeShapes Go.WideShapes Go.ChangeAt Go.RowKit
set_option linter.unusedVariables false

theorem markByteS_m (f : List Nat) (v : Value) (k : Int) (xs : List UInt8) (w : World) (hv : OwBy w f v xs) (hn : xs.length ≤ 4294967296) (hk : 0 ≤ k ∧ k ≤ 1099511627776) :
    Calls Try.prog 128 #[v, .int .i64 k] w fun e w' => e = .returned (.int .i64 (k + xs.length)) ∧ OwBy w' f v (marks k xs.length) ∧ FrL f w w' := by
  obtain ⟨h1, rfl⟩ := hv
  refine (markByteS_own v k xs w h1 hn hk).mono ?_
  rintro e w' ⟨he, h2, h3⟩
  exact ⟨he, ⟨by rw [marks_len]; exact h2, rfl⟩, h3⟩
theorem markIntS_m (f : List Nat) (v : Value) (k : Int) (xs : List Int) (w : World) (hv : OwIn w f v xs) (hn : xs.length ≤ 4294967296) (hk : 0 ≤ k ∧ k ≤ 1099511627776) :
    Calls Try.prog 30 #[v, .int .i64 k] w fun e w' => e = .returned (.int .i64 (k + xs.length)) ∧ OwIn w' f v (marksI k xs.length) ∧ FrL f w w' := by
  obtain ⟨hv, rfl⟩ := hv
  cases hg : v.ownBlock with
  | none =>
    have ho : OwI w w.heap.size w.heap.size v xs := by
      refine ⟨⟨hv.1, ?_⟩, fun k hk => by rw [hg] at hk; cases hk⟩
      rcases hv.2 with h | ⟨g, cap, cur, rfl, _⟩
      · exact .inl h
      · simp [Value.ownBlock] at hg
    refine (markIntS_any v k xs _ _ w ho hn hk).mono ?_
    rintro e w' ⟨rfl, h1, h2⟩
    exact ⟨rfl, ⟨row_mono h1.1 (Nat.zero_le _), by rw [hg]⟩, ⟨h2.os, h2.tape, h2.output, h2.size, fun k hk' _ => h2.block k hk' (.inl hk')⟩⟩
  | some g =>
    have ho : OwI w g (g + 1) v xs := by
      refine ⟨⟨hv.1, ?_⟩, fun k hk => by rw [hg] at hk; injection hk with hk; omega⟩
      rcases hv.2 with h | ⟨g', cap, cur, rfl, _, rest⟩
      · exact .inl h
      · simp [Value.ownBlock] at hg
        subst hg
        exact .inr ⟨_, cap, cur, rfl, Nat.le_refl _, rest⟩
    refine (markIntS_any v k xs _ _ w ho hn hk).mono ?_
    rintro e w' ⟨rfl, h1, h2⟩
    exact ⟨rfl, ⟨row_mono h1.1 (Nat.zero_le _), by first | rw [hg] | (rw [hg]; rfl)⟩, FrL.of_fr h2⟩
theorem heldByteS_h (v : Value) (k : Int) (n : Nat) (w : World) (hv : RdB w v (marks k n)) (hn : n ≤ 4294967296) (hk : 0 ≤ k ∧ k ≤ 1099511627776) :
    Calls Try.prog 129 #[v, .int .i64 k] w fun e w' => e = .returned (.int .i64 (k + n)) ∧ Below w.heap.size w w' :=
  (heldByteS_any v k n w hv hn hk).mono fun e w' h => ⟨h.1, by rw [← h.2]; exact Below.refl _ _⟩
theorem heldIntS_h (v : Value) (k : Int) (n : Nat) (w : World) (hv : RdI w v (marksI k n)) (hn : n ≤ 4294967296) (hk : 0 ≤ k ∧ k ≤ 1099511627776) :
    Calls Try.prog 116 #[v, .int .i64 k] w fun e w' => e = .returned (.int .i64 (k + n)) ∧ Below w.heap.size w w' :=
  (heldIntS_any v k n w hv hn hk).mono fun e w' h => ⟨h.1, by rw [← h.2]; exact Below.refl _ _⟩

theorem OwBy.set {w : World} {f : List Nat} {v u : Value} {xs : List UInt8} {g o : Nat} (h : OwBy w f v xs) (hg : g ∉ f) : OwBy (w.setCell ⟨g, o, none⟩ u) f v xs :=
  h.keep (fun b hb => heap_setCell_far w g o b u (fun e => hg (e ▸ hb)))
theorem OwIn.set {w : World} {f : List Nat} {v u : Value} {xs : List Int} {g o : Nat} (h : OwIn w f v xs) (hg : g ∉ f) : OwIn (w.setCell ⟨g, o, none⟩ u) f v xs :=
  h.keep (fun b hb => heap_setCell_far w g o b u (fun e => hg (e ▸ hb)))
theorem OwBy.frl {w w' : World} {f cs : List Nat} {v : Value} {xs : List UInt8} (h : OwBy w f v xs) (hf : FrL cs w w') (hd : ∀ b ∈ f, b ∉ cs) : OwBy w' f v xs :=
  h.keep (fun b hb => hf.block b (h.inside b hb) (hd b hb))
theorem OwIn.frl {w w' : World} {f cs : List Nat} {v : Value} {xs : List Int} (h : OwIn w f v xs) (hf : FrL cs w w') (hd : ∀ b ∈ f, b ∉ cs) : OwIn w' f v xs :=
  h.keep (fun b hb => hf.block b (h.inside b hb) (hd b hb))
theorem OwBy.below {w w' : World} {f : List Nat} {v : Value} {xs : List UInt8} (h : OwBy w f v xs) (hb : Below w.heap.size w w') : OwBy w' f v xs := h.keep (fun b hb' => hb.block b (h.inside b hb'))
theorem OwIn.below {w w' : World} {f : List Nat} {v : Value} {xs : List Int} (h : OwIn w f v xs) (hb : Below w.heap.size w w') : OwIn w' f v xs := h.keep (fun b hb' => hb.block b (h.inside b hb'))
theorem OwL.set {α : Type} {e : TypeId} {m : Nat} {E : World → List Nat → List Value → α → Prop} {w : World} {f : List Nat} {v u : Value} {xs : List α} {g o : Nat} (hE : Framed E) (h : OwL e m E w f v xs) (hg : g ∉ f) : OwL e m E (w.setCell ⟨g, o, none⟩ u) f v xs :=
  h.keep hE (fun b hb => heap_setCell_far w g o b u (fun e => hg (e ▸ hb)))

/-- One element of an owned row, at its cells. -/
structure Foc (e : TypeId) (m g n c j : Nat) (pre post : List Value) (w : World) (cs : List Value) : Prop where
  row : w.ownsRow 0 e m (.slice (some ⟨g, 0, none⟩) n c) n (pre ++ cs ++ post)
  len : pre.length = j * m
  m : cs.length = m
  lt : j < n
section
variable {e : TypeId} {m g n c j : Nat} {pre post : List Value} {w w' : World} {cs : List Value}
theorem Foc.at (h : Foc e m g n c j pre post w cs) {i : Nat} {u : Value} (hi : cs[i]? = some u) : w.cell? ⟨g, j * m + i, none⟩ = some u := by
  have hil : i < cs.length := (List.getElem?_eq_some_iff.1 hi).1
  have hm := h.m
  have hl := h.len
  have h1 : (j + 1) * m ≤ n * m := Nat.mul_le_mul_right _ h.lt
  rw [Nat.succ_mul] at h1
  rw [h.row.cellAt (j * m + i) (by omega), ← hl, List.append_assoc, List.getElem?_append_right (by omega), List.getElem?_append_left (by omega), Nat.add_sub_cancel_left]
  exact hi
theorem Foc.at0 (h : Foc e m g n c j pre post w cs) {u : Value} (hi : cs[0]? = some u) : w.cell? ⟨g, j * m, none⟩ = some u := h.at hi
theorem Foc.frozen (h : Foc e m g n c j pre post w cs) (p : Nat) : w.frozen? ⟨g, p, none⟩ = false := h.row.frozenAt p
theorem Foc.set {i : Nat} {v : Value} (h : Foc e m g n c j pre post w cs) (him : i < m) : Foc e m g n c j pre post (w.setCell ⟨g, j * m + i, none⟩ v) (cs.set i v) := by
  have hi : i < cs.length := by rw [h.m]; exact him
  refine ⟨?_, h.len, by rw [List.length_set]; exact h.m, h.lt⟩
  have h1 := (h.row.stored (j * m + i) v).1
  have hl := h.len
  rw [List.append_assoc, List.set_append_right _ _ (by omega), List.set_append_left _ _ (by omega), hl, Nat.add_sub_cancel_left, ← List.append_assoc] at h1
  exact h1
theorem Foc.set0 {v : Value} (h : Foc e m g n c j pre post w cs) (hi : 0 < m) : Foc e m g n c j pre post (w.setCell ⟨g, j * m, none⟩ v) (cs.set 0 v) := h.set hi
theorem Foc.at2 (h : Foc e m g n c j pre post w cs) {p i : Nat} {u : Value} (hi : cs[p + i]? = some u) : w.cell? ⟨g, j * m + p + i, none⟩ = some u := by rw [Nat.add_assoc]; exact h.at hi
theorem Foc.set2 {p i : Nat} {v : Value} (h : Foc e m g n c j pre post w cs) (him : p + i < m) : Foc e m g n c j pre post (w.setCell ⟨g, j * m + p + i, none⟩ v) (cs.set (p + i) v) := by rw [Nat.add_assoc]; exact h.set him
theorem Foc.keep (h : Foc e m g n c j pre post w cs) (hb : w'.heap[g]? = w.heap[g]?) : Foc e m g n c j pre post w' cs :=
  ⟨ownsRow_block h.row (fun b hb' => by simp [Value.ownBlock] at hb'; subst hb'; exact hb), h.len, h.m, h.lt⟩
theorem Foc.inside (h : Foc e m g n c j pre post w cs) : g < w.heap.size := ownsRow_inside h.row g (by simp [Value.ownBlock])
theorem Foc.frl (h : Foc e m g n c j pre post w cs) {f : List Nat} (hf : FrL f w w') (hg : g ∉ f) : Foc e m g n c j pre post w' cs := h.keep (hf.block g h.inside hg)
end
theorem Blk.frl {w w' : World} {b : Nat} {vs : List Value} {f : List Nat} (h : Blk w b vs) (hf : FrL f w w') (hb : b ∉ f) : Blk w' b vs :=
  ⟨Nat.lt_of_lt_of_le h.lt hf.size, fun i => (World.cell?_of_block (a := ⟨b, i, none⟩) (hf.block b h.lt hb)).trans (h.cell i), fun o => (World.frozen?_of_block (a := ⟨b, o, none⟩) (hf.block b h.lt hb)).trans (h.frozen o)⟩
theorem CellsAt.ci2 {w : World} {a : Addr} {cs : List Value} (h : CellsAt w a cs) (p i : Nat) {u : Value} (hi : cs[p + i]? = some u) (hp : 0 < p) : w.cell? ⟨a.block, a.off + p + i, none⟩ = some u := by
  obtain ⟨q, hq⟩ : ∃ q, p + i = q + 1 := ⟨p + i - 1, by omega⟩
  rw [Nat.add_assoc]
  rw [hq] at hi ⊢
  exact h.ci q hi
theorem FrL.consR {g : Nat} {f : List Nat} {a b : World} (h : FrL f a b) : FrL (g :: f) a b := h.mono (fun k hk => List.mem_cons_of_mem _ hk)

end Go.Proofs.Ythdjjgbjemaabaa
