/-
  One element of an owned row, turned into another one with blocks of its own; a part of a struct's block, stored at once. My own words.
-/
import Derived.Test.YthdjjgbjemaabaaBlkW
import Derived.Test.YthdjjgbjemaabaaAppI
namespace Go.Proofs.Ythdjjgbjemaabaa
open Go.ChangeShapes Go.WideShapes Go.ChangeAt Go.RowKit
set_option linter.unusedVariables false
theorem putCells_set (g : Nat) : ∀ (cs : List Value) (p : Nat) (w : World), putCells w g p cs = w.setCells g p cs
  | [], _, _ => rfl
  | c :: cs, p, w => by rw [putCells, World.setCells, putCells_set g cs (p + 1) _]
theorem flatten_set {fs : List (List Nat)} {k : Nat} {f' : List Nat} (hk : k < fs.length) (hn : fs.flatten.Nodup) (hf : f'.Nodup) (hd : ∀ b ∈ f', b ∉ fs.flatten) : (fs.set k f').flatten.Nodup ∧ ∀ b ∈ (fs.set k f').flatten, b ∈ fs.flatten ∨ b ∈ f' := by
  have h1 : fs = fs.take k ++ fs[k] :: fs.drop (k + 1) := by rw [← List.drop_eq_getElem_cons hk, List.take_append_drop]
  have h2 : fs.set k f' = fs.take k ++ f' :: fs.drop (k + 1) := List.set_eq_take_append_cons_drop .. |>.trans (by rw [if_pos hk])
  have hfl : fs.flatten = (fs.take k).flatten ++ (fs[k] ++ (fs.drop (k + 1)).flatten) := by
    have h3 := congrArg List.flatten h1
    rw [List.flatten_append, List.flatten_cons] at h3
    exact h3
  rw [h2]
  rw [hfl] at hn hd ⊢
  simp only [List.flatten_append, List.flatten_cons] at *
  obtain ⟨ha, hb, hc⟩ := List.nodup_append.1 hn
  obtain ⟨hb1, hb2, hb3⟩ := List.nodup_append.1 hb
  refine ⟨List.nodup_append.2 ⟨ha, List.nodup_append.2 ⟨hf, hb2, fun a h1 b h2 he => ?_⟩, fun a h1 b h2 he => ?_⟩, fun b hb => ?_⟩
  · subst he; exact hd a h1 (by simp [h2])
  · subst he
    rcases List.mem_append.1 h2 with h2 | h2
    · exact hd a h2 (by simp [h1])
    · exact hc a h1 a (by simp [h2]) rfl
  · rcases List.mem_append.1 hb with hb | hb
    · exact .inl (by simp [hb])
    · rcases List.mem_append.1 hb with hb | hb
      · exact .inr hb
      · exact .inl (by simp [hb])
section
variable {α : Type} {e : TypeId} {m : Nat} {E : World → List Nat → List Value → α → Prop} {w : World} {bs : List Nat} {g n c k : Nat} {xs : List α}
theorem OwL.put (hE : Framed E) (hI : Inside E) (h : OwL e m E w bs (.slice (some ⟨g, 0, none⟩) n c) xs) (hnd : bs.Nodup) (hk : k < n) {cs' : List Value} {f' : List Nat} {x' : α} (hcs : cs'.length = m) (hx' : E w f' cs' x') (hd : ∀ b ∈ f', b ∉ bs) (hf' : f'.Nodup) :
    ∃ bs', OwL e m E (w.setCells g (k * m) cs') bs' (.slice (some ⟨g, 0, none⟩) n c) (xs.set k x') ∧ bs'.Nodup ∧ (∀ b ∈ bs', b ∈ bs ∨ b ∈ f') ∧ g ∈ bs := by
  have hlen := h.len
  have hins := h.inside hI
  obtain ⟨cells, fs, hr, hl, rfl, hx⟩ := h
  subst hlen
  have hm1 : (k + 1) * m ≤ xs.length * m := Nat.mul_le_mul_right _ hk
  rw [Nat.succ_mul] at hm1
  have hcl := hr.1
  simp only [Value.ownBlock, Option.toList_some, List.cons_append, List.nil_append, List.nodup_cons] at hnd hd ⊢
  obtain ⟨hg, hnf⟩ := hnd
  have hgf' : g ∉ f' := fun h => hd g h (by simp)
  have hset := flatten_set (k := k) (f' := f') (by omega) hnf hf' (fun b hb hb' => hd b hb (by simp [hb']))
  have hsplit : cells = cells.take (k * m) ++ (cells.drop (k * m)).take m ++ cells.drop ((k + 1) * m) := by
    rw [List.append_assoc, Nat.succ_mul, ← List.drop_drop, List.take_append_drop, List.take_append_drop]
  obtain ⟨h1, h2, h3⟩ := putCells_row cs' (k * m) hr
  rw [putCells_set] at h1 h2 h3
  have hmid : setMany cells (k * m) cs' = cells.take (k * m) ++ cs' ++ cells.drop ((k + 1) * m) := by
    conv => lhs; rw [hsplit]
    exact setMany_mid cs' _ _ _ _ (by rw [List.length_take]; omega) (by rw [List.length_take, List.length_drop]; omega)
  rw [hmid] at h1
  refine ⟨g :: (fs.set k f').flatten, ⟨_, fs.set k f', by rw [List.length_set]; exact h1, by rw [List.length_set, List.length_set]; exact hl, by simp [Value.ownBlock], fun i y f hy hf => ?_⟩, List.nodup_cons.2 ⟨fun h => ?_, hset.1⟩, fun b hb => ?_, by simp⟩
  · by_cases hik : i = k
    · subst hik
      rw [List.getElem?_set_self (by omega)] at hy hf
      injection hy with hy
      injection hf with hf
      subst hy hf
      have : ((cells.take (i * m) ++ cs' ++ cells.drop ((i + 1) * m)).drop (i * m)).take m = cs' := by
        rw [List.append_assoc, List.drop_append_of_le_length (by rw [List.length_take]; omega), List.drop_of_length_le (by rw [List.length_take]; omega), List.nil_append, List.take_append_of_le_length (by omega), List.take_of_length_le (by omega)]
      rw [this]
      exact hE _ _ _ _ _ hx' (fun b hb => h2.block b (hI _ _ _ _ hx' b hb) (by simp only [List.mem_singleton]; rintro rfl; exact hgf' hb))
    · rw [List.getElem?_set_ne (fun h => hik h.symm)] at hy hf
      have hold := hx i y f hy hf
      have hil : i < xs.length := (List.getElem?_eq_some_iff.1 hy).1
      have hcells : ((cells.take (k * m) ++ cs' ++ cells.drop ((k + 1) * m)).drop (i * m)).take m = (cells.drop (i * m)).take m := by
        by_cases hlt : i < k
        · have h1 : (i + 1) * m ≤ k * m := Nat.mul_le_mul_right _ hlt
          rw [Nat.succ_mul] at h1
          rw [List.append_assoc, List.drop_append_of_le_length (by rw [List.length_take]; omega), List.take_append_of_le_length (by rw [List.length_drop, List.length_take]; omega), List.drop_take, List.take_take, Nat.min_eq_left (by omega)]
        · have h1 : (k + 1) * m ≤ i * m := Nat.mul_le_mul_right _ (by omega)
          have hpl : (cells.take (k * m) ++ cs').length = (k + 1) * m := by rw [List.length_append, List.length_take, hcs, Nat.succ_mul]; omega
          rw [List.drop_append, hpl, List.drop_of_length_le (by omega), List.nil_append, List.drop_drop, Nat.add_sub_cancel' h1]
      rw [hcells]
      refine hE _ _ _ _ _ hold (fun b hb => h2.block b (hins b (by simp [Value.ownBlock]; exact .inr (by simpa using mem_flatten_at hf hb))) ?_)
      simp only [List.mem_singleton]
      rintro rfl
      exact hg (mem_flatten_at hf hb)
  · rcases hset.2 g h with h | h
    · exact hg h
    · exact hgf' h
  · rcases List.mem_cons.1 hb with rfl | hb
    · exact .inl (by simp)
    · rcases hset.2 b hb with h | h
      · exact .inl (by simp only [List.mem_cons]; exact .inr h)
      · exact .inr h
/-- What an element's store asks of the row. -/
theorem OwL.there (h : OwL e m E w bs (.slice (some ⟨g, 0, none⟩) n c) xs) (hk : k < n) : w.there g (k * m) m := by
  have hlen := h.len
  obtain ⟨cells, fs, hr, hl, rfl, hx⟩ := h
  have hm1 : (k + 1) * m ≤ n * m := Nat.mul_le_mul_right _ hk
  rw [Nat.succ_mul] at hm1
  subst hlen
  intro j hj
  exact ⟨by rw [hr.cellAt (k * m + j) (by have := hr.1; omega), List.getElem?_eq_getElem (by have := hr.1; omega)]; rfl, hr.frozenAt _⟩
end
section
variable {w : World} {b : Nat} {vs cs : List Value}
theorem Blk.part (h : Blk w b vs) {o : Nat} (ho : o + cs.length ≤ vs.length) : Blk (w.setCells b o cs) b (vs.take o ++ cs ++ vs.drop (o + cs.length)) := by
  have hth : ∀ j, j < cs.length → (w.cell? ⟨b, o + j, none⟩).isSome = true := fun j hj => by rw [h.at (List.getElem?_eq_getElem (show o + j < vs.length by omega))]; rfl
  refine ⟨by rw [size_setCells]; exact h.lt, fun i => ?_, fun p => by rw [World.frozen?_setCells]; exact h.frozen p⟩
  rw [cell_setCells_at cs o w i hth]
  by_cases hi : o ≤ i ∧ i < o + cs.length
  · rw [if_pos hi, List.append_assoc, List.getElem?_append_right (by rw [List.length_take]; omega), List.length_take, Nat.min_eq_left (by omega), List.getElem?_append_left (by omega)]
  · rw [if_neg hi, h.cell i]
    by_cases hlt : i < o
    · rw [List.append_assoc, List.getElem?_append_left (by rw [List.length_take]; omega), List.getElem?_take_of_lt hlt]
    · rw [List.getElem?_append_right (by rw [List.length_append, List.length_take]; omega), List.length_append, List.length_take, Nat.min_eq_left (by omega), List.getElem?_drop]
      congr 1; omega
end
section
variable {P : Program} {ops : Array Oper} {rest : List Oper} {o : Oper} {a : Act} {w : World} {Q : Exit → Act → World → Prop}
theorem wpList_store_part (hgd : o.guard = none) (t : TypeId) (x y : Operand) (ho : o.op = .store t x y) {b off : Nat} {vs : List Value} (k : Blk w b vs) (cs : Array Value) (hx : a.eval x = .pointer (some ⟨b, off, none⟩)) (hy : a.eval y = .agg cs)
    (hl : off + cs.toList.length ≤ vs.length) (hi : (P.info? t).map (·.size) = some cs.size) (h1 : cs.all (·.oneCell') = true)
    (h : ∀ w', Blk w' b (vs.take off ++ cs.toList ++ vs.drop (off + cs.toList.length)) → FrL [b] w w' → w'.heap.size = w.heap.size → wpList P ops Q rest (a.put o.dst undef) w') : wpList P ops Q (o :: rest) a w :=
  wpList_store_mid hgd t x y ho b off cs hx hy (fun j hj => ⟨by rw [k.at (List.getElem?_eq_getElem (show off + j < vs.length by simp at hl; omega))]; rfl, k.frozen _⟩) hi h1 (h _ (k.part hl) (FrL.setCells b (by simp) _ _ _ (FrL.refl _ _)) (size_setCells _ _ _ _))
theorem wpList_store_elem {α : Type} {e : TypeId} {m : Nat} {E : World → List Nat → List Value → α → Prop} {bs : List Nat} {g n c k : Nat} {xs : List α} (hgd : o.guard = none) (t : TypeId) (x y : Operand) (ho : o.op = .store t x y) (hE : Framed E) (hI : Inside E)
    (hr : OwL e m E w bs (.slice (some ⟨g, 0, none⟩) n c) xs) (hnd : bs.Nodup) (hk : k < n) (cs : Array Value) {f' : List Nat} {x' : α} (hx : a.eval x = .pointer (some ⟨g, k * m, none⟩)) (hy : a.eval y = .agg cs)
    (hcs : cs.size = m) (hx' : E w f' cs.toList x') (hd : ∀ b ∈ f', b ∉ bs) (hf' : f'.Nodup) (hi : (P.info? t).map (·.size) = some cs.size) (h1 : cs.all (·.oneCell') = true)
    (h : ∀ w' bs', OwL e m E w' bs' (.slice (some ⟨g, 0, none⟩) n c) (xs.set k x') → bs'.Nodup → (∀ b ∈ bs', b ∈ bs ∨ b ∈ f') → FrL [g] w w' → w'.heap.size = w.heap.size → wpList P ops Q rest (a.put o.dst undef) w') : wpList P ops Q (o :: rest) a w := by
  obtain ⟨bs', h2, h3, h4, _⟩ := OwL.put hE hI hr hnd hk (cs' := cs.toList) (by simpa using hcs) hx' hd hf'
  exact wpList_store_mid hgd t x y ho g (k * m) cs hx hy (by rw [hcs]; exact OwL.there hr hk) hi h1 (h _ bs' h2 h3 h4 (FrL.setCells g (by simp) _ _ _ (FrL.refl _ _)) (size_setCells _ _ _ _))
end
end Go.Proofs.Ythdjjgbjemaabaa
