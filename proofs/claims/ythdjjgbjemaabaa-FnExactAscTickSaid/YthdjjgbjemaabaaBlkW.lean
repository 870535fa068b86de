/-
  A struct's whole block, loaded and stored at once, and the row of one element that a literal lays. My own words, over the library's laws of many cells at once.
-/
import Derived.Test.YthdjjgbjemaabaaBlk
import Derived.Test.YthdjjgbjemaabaaKin
import Derived.Test.YthdjjgbjemaabaaMark
import Derived.Deep.MidRow
namespace Go.Proofs.Ythdjjgbjemaabaa
open Go.ChangeShapes Go.WideShapes Go.ChangeAt Go.RowKit
set_option linter.unusedVariables false
section
variable {w w' : World} {b : Nat} {vs cs : List Value}
theorem Blk.at_heap (h : Blk w b vs) (hb : w'.heap[b]? = w.heap[b]?) (hl : b < w'.heap.size) : Blk w' b vs :=
  ⟨hl, fun i => (World.cell?_of_block (a := ⟨b, i, none⟩) hb).trans (h.cell i), fun o => (World.frozen?_of_block (a := ⟨b, o, none⟩) hb).trans (h.frozen o)⟩
theorem Blk.range (h : Blk w b vs) : w.rangeAt b 0 vs := fun j v hv => by rw [Nat.zero_add]; exact h.at hv
theorem Blk.there (h : Blk w b vs) : w.there b 0 vs.length := fun j hj => ⟨by rw [Nat.zero_add, h.at (List.getElem?_eq_getElem hj)]; rfl, h.frozen _⟩
theorem heap_setCells (b : Nat) : ∀ (cs : List Value) (o : Nat) (w : World) (k : Nat), k ≠ b → (w.setCells b o cs).heap[k]? = w.heap[k]?
  | [], _, _, _, _ => rfl
  | v :: cs, o, w, k, hk => by rw [World.setCells, heap_setCells b cs (o + 1) _ k hk]; exact heap_setCell_far w b o k v hk
theorem size_setCells (b : Nat) : ∀ (cs : List Value) (o : Nat) (w : World), (w.setCells b o cs).heap.size = w.heap.size
  | [], _, _ => rfl
  | v :: cs, o, w => by rw [World.setCells, size_setCells b cs (o + 1) _]; simp [World.setCell]
theorem FrL.setCells {f : List Nat} {a : World} (b : Nat) (hb : b ∈ f) : ∀ (cs : List Value) (o : Nat) (w : World), FrL f a w → FrL f a (w.setCells b o cs)
  | [], _, _, h => h
  | v :: cs, o, w, h => by rw [World.setCells]; exact FrL.setCells b hb cs (o + 1) _ (h.set v hb)
theorem cell_setCells_at : ∀ (cs : List Value) (o : Nat) (w : World) (i : Nat), (∀ j, j < cs.length → (w.cell? ⟨b, o + j, none⟩).isSome = true) →
    (w.setCells b o cs).cell? ⟨b, i, none⟩ = if o ≤ i ∧ i < o + cs.length then cs[i - o]? else w.cell? ⟨b, i, none⟩ := by
  intro cs o w i h
  by_cases hi : o ≤ i ∧ i < o + cs.length
  · rw [if_pos hi]
    obtain ⟨j, rfl⟩ : ∃ j, i = o + j := ⟨i - o, by omega⟩
    rw [World.cell?_setCells_in b cs o w h j (by omega), Nat.add_sub_cancel_left, List.getElem?_eq_getElem (by omega)]
  · rw [if_neg hi, World.cell?_setCells_out b cs o w ⟨b, i, none⟩ (fun _ _ => by show i < o ∨ o + cs.length ≤ i; omega)]
theorem Blk.whole (h : Blk w b vs) (hl : cs.length = vs.length) : Blk (w.setCells b 0 cs) b cs :=
  ⟨by rw [size_setCells]; exact h.lt, fun i => by
    rw [cell_setCells_at cs 0 w i (fun j hj => (h.there j (by omega)).1)]
    by_cases hi : i < cs.length
    · rw [if_pos ⟨Nat.zero_le _, by omega⟩, Nat.sub_zero]
    · rw [if_neg (by omega), h.cell i, List.getElem?_eq_none (by omega), List.getElem?_eq_none (by omega)], fun o => by rw [World.frozen?_setCells]; exact h.frozen o⟩
end
section
variable {P : Program} {ops : Array Oper} {rest : List Oper} {o : Oper} {a : Act} {w : World} {Q : Exit → Act → World → Prop}
theorem wpList_load_blk (hgd : o.guard = none) (t : TypeId) (x : Operand) (ho : o.op = .load t x) {b : Nat} {vs : List Value} (k : Blk w b vs) (hx : a.eval x = .pointer (some ⟨b, 0, none⟩)) (d : TypeDesc)
    (hu : P.underlying t = some d) (hd : d.isRow = true) (hi : (P.info? t).map (·.size) = some vs.length) (h : wpList P ops Q rest (a.put o.dst (.agg vs.toArray)) w) : wpList P ops Q (o :: rest) a w :=
  wpList_load_mid hgd t x ho b 0 hx vs d k.range hu hd hi h
theorem wpList_store_blk (hgd : o.guard = none) (t : TypeId) (x y : Operand) (ho : o.op = .store t x y) {b : Nat} {vs : List Value} (k : Blk w b vs) (cs : Array Value) (hx : a.eval x = .pointer (some ⟨b, 0, none⟩)) (hy : a.eval y = .agg cs)
    (hl : cs.size = vs.length) (hi : (P.info? t).map (·.size) = some cs.size) (h1 : cs.all (·.oneCell') = true)
    (h : ∀ w', Blk w' b cs.toList → FrL [b] w w' → w'.heap.size = w.heap.size → wpList P ops Q rest (a.put o.dst undef) w') : wpList P ops Q (o :: rest) a w :=
  wpList_store_mid hgd t x y ho b 0 cs hx hy (by rw [hl]; exact k.there) hi h1 (h _ (k.whole (by simpa using hl)) (FrL.setCells b (by simp) _ _ _ (FrL.refl _ _)) (size_setCells _ _ _ _))
theorem exec_load_blk (t : TypeId) (x : Operand) (ho : o.op = .load t x) {b : Nat} {vs : List Value} (k : Blk w b vs) (hx : a.eval x = .pointer (some ⟨b, 0, none⟩)) (d : TypeDesc)
    (hu : P.underlying t = some d) (hd : d.isRow = true) (hi : (P.info? t).map (·.size) = some vs.length) : (execOp a.eval o).run P w = .ok (.value (.agg vs.toArray)) w := by
  unfold execOp
  simp only [ho, hx, Instr.loadAt, Instr.sureAddr, Sem.run_bind, Sem.run_pure, Result.andThen_ok, run_loadVar_mid w b 0 t vs d k.range hu hd hi]
theorem exec_store_blk (t : TypeId) (x y : Operand) (ho : o.op = .store t x y) {b : Nat} {vs : List Value} (k : Blk w b vs) (cs : Array Value) (hx : a.eval x = .pointer (some ⟨b, 0, none⟩)) (hy : a.eval y = .agg cs)
    (hl : cs.size = vs.length) (hi : (P.info? t).map (·.size) = some cs.size) (h1 : cs.all (·.oneCell') = true) : (execOp a.eval o).run P w = .ok .skip (w.setCells b 0 cs.toList) := by
  unfold execOp
  simp only [ho, Sem.run_bind, Sem.run_pure, Result.andThen_ok, hx, hy, run_storeAt_mid (P := P) w b 0 t cs (by rw [hl]; exact k.there) hi h1]
theorem exec_store_mid (t : TypeId) (x y : Operand) (ho : o.op = .store t x y) {b off : Nat} (cs : Array Value) (ht : w.there b off cs.size) (hx : a.eval x = .pointer (some ⟨b, off, none⟩)) (hy : a.eval y = .agg cs)
    (hi : (P.info? t).map (·.size) = some cs.size) (h1 : cs.all (·.oneCell') = true) : (execOp a.eval o).run P w = .ok .skip (w.setCells b off cs.toList) := by
  unfold execOp
  simp only [ho, Sem.run_bind, Sem.run_pure, Result.andThen_ok, hx, hy, run_storeAt_mid (P := P) w b off t cs ht hi h1]
theorem load_blk (t : TypeId) {b : Nat} {vs : List Value} (k : Blk w b vs) (d : TypeDesc) (hu : P.underlying t = some d) (hd : d.isRow = true) (hi : (P.info? t).map (·.size) = some vs.length) : (loadVar t ⟨b, 0, none⟩).run P w = .ok (.agg vs.toArray) w :=
  run_loadVar_mid w b 0 t vs d k.range hu hd hi
theorem results_rw1 {fn : Func} {r : Tmp} {t : TypeId} {tmps : Array Value} {p : Addr} {v : Value} (hf : fn.results = #[.cell r t]) (hp : tmps[r]?.getD undef = .pointer (some p)) (hl : (loadVar t p).run P w = .ok v w) : (results fn tmps).run P w = .ok v w := by
  unfold results
  rw [hf]
  simp [hp, asAddr, hl]
/-- The answer of a function whose results are a struct's variable and slots. -/
theorem results_row2 {fn : Func} {r s : Tmp} {t : TypeId} {tmps : Array Value} {p : Addr} {v u : Value} (hf : fn.results = #[.cell r t, .tmp s]) (hp : tmps[r]?.getD undef = .pointer (some p)) (hs : tmps[s]?.getD undef = u) (hl : (loadVar t p).run P w = .ok v w) : (results fn tmps).run P w = .ok (.tuple #[v, u]) w := by
  unfold results
  rw [hf]
  simp [hp, asAddr, hl, hs]
theorem results_row3 {fn : Func} {r s s2 : Tmp} {t : TypeId} {tmps : Array Value} {p : Addr} {v u u2 : Value} (hf : fn.results = #[.cell r t, .tmp s, .tmp s2]) (hp : tmps[r]?.getD undef = .pointer (some p)) (hs : tmps[s]?.getD undef = u) (hs2 : tmps[s2]?.getD undef = u2) (hl : (loadVar t p).run P w = .ok v w) : (results fn tmps).run P w = .ok (.tuple #[v, u, u2]) w := by
  unfold results
  rw [hf]
  simp [hp, asAddr, hl, hs, hs2]
end
/-- A row of one element, as a literal lays it. -/
theorem OwL.lit1 {α : Type} {e : TypeId} {m : Nat} {E : World → List Nat → List Value → α → Prop} (hE : Framed E) (hI : Inside E) {w : World} {f : List Nat} {cs : List Value} {x : α} (h : E w f cs x) (hc : cs.length = m) (g : Nat) (hg : g = w.heap.size) :
    OwL e m E (w.alloc (.cells cs.toArray e)) (g :: f) (.slice (some ⟨g, 0, none⟩) 1 1) [x] := by
  subst hg
  refine ⟨cs, [f], ⟨by simp [hc], .inr ⟨w.heap.size, 1, cs.toArray, rfl, Nat.zero_le _, heap_alloc_new w _, by simp, by unfold maxLen; omega, by simp [hc], by simp; exact List.take_of_length_le (by omega)⟩⟩, rfl, by simp [Value.ownBlock], fun j y g hy hg => ?_⟩
  rcases j with _ | j
  · simp only [List.getElem?_cons_zero, Option.some.injEq] at hy hg
    subst hy hg
    rw [Nat.zero_mul, List.drop_zero, List.take_of_length_le (by omega)]
    exact hE _ _ _ _ _ h (fun b hb => by
      have := hI _ _ _ _ h b hb
      rw [((Below.refl w.heap.size w).alloc (Nat.le_refl _) _).block b this])
  · simp at hy
theorem below_frl1 {B b : Nat} {w w' w'' : World} (h : Below B w w') (hB : B ≤ w.heap.size) (hf : FrL [b] w' w'') (hb : B ≤ b) : Below B w w'' :=
  h.trans (hf.below (fun k hk => by simp at hk; omega) (Nat.le_trans hB h.size))
end Go.Proofs.Ythdjjgbjemaabaa
