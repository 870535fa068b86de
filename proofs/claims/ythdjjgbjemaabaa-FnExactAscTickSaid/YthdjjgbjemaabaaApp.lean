/-
  append onto a row of structs that the call owns. My own words, over the library's law of append at an owned row.
-/
import Derived.Test.YthdjjgbjemaabaaKin
import Derived.Maps.AppendAt
namespace Go.Proofs.Ythdjjgbjemaabaa
open Go.ChangeShapes Go.WideShapes Go.ChangeAt Go.RowKit
set_option linter.unusedVariables false

/-- What the model knows of an element's type. -/
structure Elem (P : Program) (t e : TypeId) (m : Nat) : Prop where
  ex : ∃ (i : TypeInfo) (z : Value), P.underlying t = some (.slice e) ∧ P.info? e = some i ∧ i.zero = some z ∧ i.size = m ∧ i.bytes ≤ 4096 ∧ z.cells.size = m ∧ 0 < m
theorem drop_take_left {α : Type} {a b : List α} {j m : Nat} (h : j * m + m ≤ a.length) : ((a ++ b).drop (j * m)).take m = (a.drop (j * m)).take m := by
  rw [List.drop_append_of_le_length (by omega), List.take_append_of_le_length (by rw [List.length_drop]; omega)]
theorem drop_take_right {α : Type} {a b : List α} {k j m : Nat} (h : a.length = k * m) : ((a ++ b).drop ((k + j) * m)).take m = (b.drop (j * m)).take m := by
  rw [Nat.add_mul, ← h, List.drop_append, List.drop_of_length_le (by omega), List.nil_append, Nat.add_sub_cancel_left]
/-- Elements that stand one behind the other from an address on, each with its blocks. -/
def Els {α : Type} (m : Nat) (E : World → List Nat → List Value → α → Prop) (w : World) (news : List Value) (fs : List (List Nat)) (ys : List α) : Prop :=
  news.length = ys.length * m ∧ fs.length = ys.length ∧ ∀ j y f, ys[j]? = some y → fs[j]? = some f → E w f ((news.drop (j * m)).take m) y
theorem Els.one {α : Type} {m : Nat} {E : World → List Nat → List Value → α → Prop} {w : World} {f : List Nat} {cs : List Value} {x : α} (h : E w f cs x) (hc : cs.length = m) : Els m E w cs [f] [x] := by
  refine ⟨by simp [hc], rfl, fun j y g hy hg => ?_⟩
  rcases j with _ | j
  · simp only [List.getElem?_cons_zero, Option.some.injEq] at hy hg
    subst hy hg
    rw [Nat.zero_mul, List.drop_zero, List.take_of_length_le (by omega)]
    exact h
  · simp at hy
theorem OwL.push {P : Program} {α : Type} {t e ty : TypeId} {m : Nat} {E : World → List Nat → List Value → α → Prop} (hE : Framed E) (hI : Inside E) (he : Elem P t e m)
    {w : World} {lo : Nat} {bs : List Nat} {v : Value} {xs : List α} (h : OwL e m E w bs v xs) (hn : Nw lo w.heap.size bs) (hlo : lo ≤ w.heap.size)
    {news : List Value} {fs' : List (List Nat)} {ys : List α} (hy : Els m E w news fs' ys) (hf : Nw lo w.heap.size fs'.flatten) (hd : ∀ b ∈ fs'.flatten, b ∉ bs) (a : Addr) (c : Nat)
    (hc : ∀ j u, news[j]? = some u → w.cell? (a.add j) = some u) (h1 : ∀ u ∈ news, u.oneCell' = true) (hlen : xs.length + ys.length ≤ 1073741824) :
    ∃ v' w' bs', (Builtin.append_ #[t, t] ty #[v, .slice (some a) ys.length c]).run P w = .ok v' w' ∧ OwL e m E w' bs' v' (xs ++ ys) ∧ Nw lo w'.heap.size bs' ∧ w.grownBy w' v.ownBlock ∧ (∀ b ∈ bs', b ∈ bs ∨ b ∈ fs'.flatten ∨ w.heap.size ≤ b) := by
  obtain ⟨i, z, ht, hi, hz, hsz, hby, hzs, hm⟩ := he.ex
  obtain ⟨cells, fs, hr, hl, rfl, hx⟩ := h
  obtain ⟨hyl, hyf, hye⟩ := hy
  obtain ⟨v', w', hrun, hrow, hg, _, hob⟩ := run_append_own_at (P := P) w 0 t ty e i z m i.bytes ht hi hz hsz rfl hzs hm v xs.length cells hr a ys.length c news hyl hc h1 (by unfold maxLen; omega) (Nat.le_trans (Nat.mul_le_mul hlen hby) (by decide)) (Nat.zero_le _)
  have hcl := hr.1
  have hnd := List.nodup_append.1 hn.1
  have hfs : ∀ (k : Nat) (f : List Nat), fs[k]? = some f → ∀ b ∈ f, w'.heap[b]? = w.heap[b]? := fun k f hf b hb => by
    have hbf := mem_flatten_at hf hb
    exact hg.block b (hn.2 b (List.mem_append_right _ hbf)).2 (fun hk => hnd.2.2 b (by simp [hk]) b hbf rfl)
  have hfs' : ∀ (k : Nat) (f : List Nat), fs'[k]? = some f → ∀ b ∈ f, w'.heap[b]? = w.heap[b]? := fun k f hf' b hb => by
    have hbf := mem_flatten_at hf' hb
    exact hg.block b (hf.2 b hbf).2 (fun hk => hd b hbf (List.mem_append_left _ (by simp [hk])))
  refine ⟨v', w', v'.ownBlock.toList ++ (fs ++ fs').flatten, hrun, ⟨cells ++ news, fs ++ fs', by rw [List.length_append]; exact hrow, by rw [List.length_append, List.length_append, hl, hyf], rfl, fun j x f hj hf0 => ?_⟩, ?_, hg, ?_⟩
  · by_cases hjl : j < xs.length
    · rw [List.getElem?_append_left hjl] at hj
      rw [List.getElem?_append_left (by omega)] at hf0
      have h2 : (j + 1) * m ≤ xs.length * m := Nat.mul_le_mul_right _ hjl
      rw [Nat.succ_mul] at h2
      rw [drop_take_left (by omega)]
      exact hE _ _ _ _ _ (hx j x f hj hf0) (hfs j f hf0)
    · rw [List.getElem?_append_right (by omega)] at hj hf0
      rw [hl] at hf0
      have h3 := drop_take_right (b := news) (j := j - xs.length) hcl
      rw [Nat.add_sub_cancel' (by omega)] at h3
      rw [h3]
      exact hE _ _ _ _ _ (hye _ x f hj hf0) (hfs' _ f hf0)
  · refine ⟨?_, fun b hb => ?_⟩
    · rw [List.flatten_append]
      refine List.nodup_append.2 ⟨by cases v'.ownBlock <;> simp, List.nodup_append.2 ⟨hnd.2.1, hf.1, fun a ha b hb heq => hd b hb (List.mem_append_right _ (heq ▸ ha))⟩, fun a ha b hb heq => ?_⟩
      subst heq
      rcases hob with hob | hob
      · rw [hob] at ha
        rcases List.mem_append.1 hb with hb | hb
        · exact hnd.2.2 a ha a hb rfl
        · exact hd a hb (List.mem_append_left _ ha)
      · rw [hob] at ha
        have ha : a = w.heap.size := by simpa using ha
        rcases List.mem_append.1 hb with hb | hb
        · have := (hn.2 a (List.mem_append_right _ hb)).2; omega
        · have := (hf.2 a hb).2; omega
    · rw [List.flatten_append] at hb
      have hsz' := hg.size
      rcases List.mem_append.1 hb with hb | hb
      · have hin := ownsRow_inside hrow b hb
        refine ⟨?_, hin⟩
        rcases hob with hob | hob
        · rw [hob] at hb; exact (hn.2 b (List.mem_append_left _ hb)).1
        · rw [hob] at hb
          have hb : b = w.heap.size := by simpa using hb
          omega
      · rcases List.mem_append.1 hb with hb | hb
        · have := hn.2 b (List.mem_append_right _ hb); omega
        · have := hf.2 b hb; omega
  · intro b hb
    rw [List.flatten_append] at hb
    rcases List.mem_append.1 hb with hb | hb
    · rcases hob with hob | hob
      · rw [hob] at hb; exact .inl (List.mem_append_left _ hb)
      · rw [hob] at hb
        have hb : b = w.heap.size := by simpa using hb
        exact .inr (.inr (by omega))
    · rcases List.mem_append.1 hb with hb | hb
      · exact .inl (List.mem_append_right _ hb)
      · exact .inr (.inl hb)
theorem wpList_push {P : Program} {α : Type} {t e : TypeId} {m : Nat} {E : World → List Nat → List Value → α → Prop} (hE : Framed E) (hI : Inside E) (he : Elem P t e m) {ops : Array Oper} {rest : List Oper} {o : Oper} {act : Act} {Q : Exit → Act → World → Prop} (w : World) (hgd : o.guard = none) (s x : Operand)
    (ho : o.op = .call { callee := .builtin .append, args := #[s, x], argTypes := #[t, t] }) {lo : Nat} {bs : List Nat} {v : Value} {xs : List α} {a : Addr} {c : Nat} {ys : List α} (hs : act.eval s = v) (hx : act.eval x = .slice (some a) ys.length c)
    (h : OwL e m E w bs v xs) (hn : Nw lo w.heap.size bs) (hlo : lo ≤ w.heap.size) {news : List Value} {fs' : List (List Nat)} (hy : Els m E w news fs' ys) (hf : Nw lo w.heap.size fs'.flatten) (hd : ∀ b ∈ fs'.flatten, b ∉ bs)
    (hc : ∀ j u, news[j]? = some u → w.cell? (a.add j) = some u) (h1 : ∀ u ∈ news, u.oneCell' = true) (hlen : xs.length + ys.length ≤ 1073741824)
    (k : ∀ v' w' bs', OwL e m E w' bs' v' (xs ++ ys) → Nw lo w'.heap.size bs' → w.grownBy w' v.ownBlock → (∀ b ∈ bs', b ∈ bs ∨ b ∈ fs'.flatten ∨ w.heap.size ≤ b) → wpList P ops Q rest (act.put o.dst v') w') :
    wpList P ops Q (o :: rest) act w := by
  refine wpList_plain hgd fun K hK => ?_
  obtain ⟨v', w', bs', hr, h2, h3, h4, h5⟩ := OwL.push (ty := o.type) hE hI he h hn hlo hy hf hd a c hc h1 hlen
  unfold Oper.wp execOp
  simp only [ho, resolve, invoke, builtin, Sem.run_bind, Sem.run_pure, Result.andThen_ok, List.map_toArray, List.map_cons, List.map_nil, hs, hx, hr]
  exact hK _ _ (k v' w' bs' h2 h3 h4 h5)
/-- A list of no elements, as a literal lays it. -/
theorem OwL.lit0 {α : Type} {e : TypeId} {m : Nat} {E : World → List Nat → List Value → α → Prop} (w : World) : OwL e m E (w.alloc (.cells #[] e)) [w.heap.size] (.slice (some ⟨w.heap.size, 0, none⟩) 0 0) [] :=
  ⟨[], [], ⟨by simp, .inr ⟨w.heap.size, 0, #[], rfl, Nat.zero_le _, heap_alloc_new w _, by simp, by unfold maxLen; omega, by simp, by simp⟩⟩, rfl, by simp [Value.ownBlock], by simp⟩
theorem OwL.nil {α : Type} {e : TypeId} {m : Nat} {E : World → List Nat → List Value → α → Prop} (w : World) : OwL e m E w [] (.slice none 0 0) [] :=
  ⟨[], [], ⟨by simp, .inl ⟨rfl, rfl⟩⟩, rfl, by simp [Value.ownBlock], by simp⟩
theorem grown_below {w w' : World} {lo : Nat} {v : Value} (h : w.grownBy w' v.ownBlock) (hlo : lo ≤ w.heap.size) (hv : ∀ b ∈ v.ownBlock.toList, lo ≤ b) : Below lo w w' :=
  ⟨h.os, h.tape, h.output, h.size, fun b hb => h.block b (by omega) (fun e => by have := hv b (by simp [e]); omega)⟩
theorem OwL.own_mem {α : Type} {e : TypeId} {m : Nat} {E : World → List Nat → List Value → α → Prop} {w : World} {bs : List Nat} {v : Value} {xs : List α} (h : OwL e m E w bs v xs) : ∀ b ∈ v.ownBlock.toList, b ∈ bs := by
  obtain ⟨cells, fs, hr, hl, rfl, hx⟩ := h
  exact fun b hb => List.mem_append_left _ hb
end Go.Proofs.Ythdjjgbjemaabaa
