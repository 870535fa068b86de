/-
  Rows of structs that a draw makes: what matters of a cell is its kind alone. My own words, over the library's law of append at an owned row; no function of the program is named.
-/
import Derived.Test.YthdjjgbjemaabaaApp
import Derived.Test.YthdjjgbjemaabaaDraw
namespace Go.Proofs.Ythdjjgbjemaabaa
open Go.ChangeShapes Go.WideShapes Go.ChangeAt Go.RowKit
set_option linter.unusedVariables false
set_option linter.unusedSimpArgs false

/-- The call owns v, a row of n elements of m cells, in a block from lo on; each cell is of its kind. -/
def OwZ (kd : Nat → Value → Prop) (e : TypeId) (m : Nat) (w : World) (lo : Nat) (v : Value) (n : Nat) : Prop :=
  ∃ cells, w.ownsRow lo e m v n cells ∧ ∀ p u, cells[p]? = some u → kd (p % m) u
section
variable {kd : Nat → Value → Prop} {e : TypeId} {m : Nat} {w w' : World} {lo n : Nat} {v : Value}
theorem OwZ.slice (h : OwZ kd e m w lo v n) : ∃ A c, v = .slice A n c := by
  obtain ⟨cells, hr, _⟩ := h
  rcases hr.2 with ⟨rfl, hn⟩ | ⟨g, cap, cur, rfl, _⟩
  · exact ⟨none, 0, by rw [hn]⟩
  · exact ⟨_, cap, rfl⟩
theorem OwZ.len {A : Option Addr} {k c : Nat} (h : OwZ kd e m w lo (.slice A k c) n) : k = n := by
  obtain ⟨A', c', hv⟩ := h.slice
  injection hv
theorem OwZ.form {A : Option Addr} {k c : Nat} (h : OwZ kd e m w lo (.slice A k c) n) (hn : 0 < n) : ∃ g, A = some ⟨g, 0, none⟩ ∧ lo ≤ g ∧ g < w.heap.size := by
  obtain ⟨cells, hr, _⟩ := h
  obtain ⟨g, cap, hv, h1, h2⟩ := hr.form (by omega)
  injection hv with e1 e2 e3
  exact ⟨g, e1, h1, h2⟩
theorem OwZ.cellAt {g k c p : Nat} (h : OwZ kd e m w lo (.slice (some ⟨g, 0, none⟩) k c) n) (hp : p < n * m) : ∃ u, w.cell? ⟨g, p, none⟩ = some u ∧ kd (p % m) u := by
  obtain ⟨cells, hr, hk⟩ := h
  have hl := hr.1
  obtain ⟨_, _, hv⟩ := OwZ.slice (kd := kd) ⟨cells, hr, hk⟩
  injection hv with e1 e2 e3
  subst e2
  have h2 := hr.cellAt p (by omega)
  exact ⟨cells[p]'(by omega), by rw [h2, List.getElem?_eq_getElem (by omega)], hk p _ (List.getElem?_eq_getElem (by omega))⟩
theorem OwZ.frozenAt {g k c : Nat} (h : OwZ kd e m w lo (.slice (some ⟨g, 0, none⟩) k c) n) (p : Nat) : w.frozen? ⟨g, p, none⟩ = false := by
  obtain ⟨cells, hr, hk⟩ := h
  obtain ⟨_, _, hv⟩ := OwZ.slice (kd := kd) ⟨cells, hr, hk⟩
  injection hv with e1 e2 e3
  subst e2
  exact hr.frozenAt p
theorem OwZ.store {g k c p : Nat} {u : Value} (h : OwZ kd e m w lo (.slice (some ⟨g, 0, none⟩) k c) n) (hu : kd (p % m) u) :
    OwZ kd e m (w.setCell ⟨g, p, none⟩ u) lo (.slice (some ⟨g, 0, none⟩) k c) n ∧ Fr lo w.heap.size w (w.setCell ⟨g, p, none⟩ u) := by
  obtain ⟨cells, hr, hk⟩ := h
  obtain ⟨_, _, hv⟩ := OwZ.slice (kd := kd) ⟨cells, hr, hk⟩
  injection hv with e1 e2 e3
  subst e2
  obtain ⟨h1, h2⟩ := hr.stored p u
  refine ⟨⟨_, h1, fun q y hq => ?_⟩, Fr.grown h2 (fun b hb => hr.lt b hb)⟩
  by_cases he : p = q
  · subst he
    rw [List.getElem?_set] at hq
    simp only [if_true] at hq
    split at hq
    · injection hq with hq; subst hq; exact hu
    · cases hq
  · rw [List.getElem?_set_ne he] at hq
    exact hk q y hq
theorem OwZ.keep (h : OwZ kd e m w lo v n) (hb : ∀ b ∈ v.ownBlock.toList, w'.heap[b]? = w.heap[b]?) : OwZ kd e m w' lo v n := by
  obtain ⟨cells, hr, hk⟩ := h
  exact ⟨cells, ownsRow_block hr hb, hk⟩
theorem OwZ.inside (h : OwZ kd e m w lo v n) : ∀ b ∈ v.ownBlock.toList, lo ≤ b ∧ b < w.heap.size := by
  obtain ⟨cells, hr, hk⟩ := h
  exact fun b hb => hr.lt b (by simpa using hb)
theorem OwZ.fr (h : OwZ kd e m w lo v n) {a b : Nat} (hf : Fr a b w w') (hd : b ≤ lo) : OwZ kd e m w' lo v n :=
  h.keep (fun k hk => hf.block k (h.inside k hk).2 (by have := h.inside k hk; omega))
theorem OwZ.below (h : OwZ kd e m w lo v n) (hb : Below w.heap.size w w') : OwZ kd e m w' lo v n := h.keep (fun k hk => hb.block k (h.inside k hk).2)
theorem OwZ.alloc (h : OwZ kd e m w lo v n) (o : Obj) : OwZ kd e m (w.alloc o) lo v n := h.below ((Below.refl _ _).alloc (Nat.le_refl _) _)
theorem OwZ.lit0 (hlo : lo ≤ w.heap.size) : OwZ kd e m (w.alloc (.cells #[] e)) lo (.slice (some ⟨w.heap.size, 0, none⟩) 0 0) 0 :=
  ⟨[], ⟨by simp, .inr ⟨w.heap.size, 0, #[], rfl, hlo, heap_alloc_new w _, by simp, by unfold maxLen; omega, by simp, by simp⟩⟩, by simp⟩
/-- It reads as a list of whatever its cells can be read as. -/
theorem OwZ.rd {α : Type} {F : World → List Value → α → Prop} (h : OwZ kd e m w lo v n) (hm : 0 < m) (hF : ∀ cs, cs.length = m → (∀ p u, cs[p]? = some u → kd p u) → ∃ x, F w cs x) : ∃ xs, xs.length = n ∧ RdS m F w v xs := by
  obtain ⟨cells, hr, hk⟩ := h
  have hl := hr.1
  have hj : ∀ j, j < n → ∃ x, F w ((cells.drop (j * m)).take m) x := fun j hj => by
    have h1 : (j + 1) * m ≤ n * m := Nat.mul_le_mul_right _ hj
    rw [Nat.succ_mul] at h1
    refine hF _ (by rw [List.length_take, List.length_drop]; omega) (fun p u hu => ?_)
    rw [List.getElem?_take] at hu
    split at hu
    · rename_i hpm
      rw [List.getElem?_drop] at hu
      have h2 := hk _ u hu
      rwa [show j * m + p = p + m * j by rw [Nat.mul_comm]; omega, Nat.add_mul_mod_self_left, Nat.mod_eq_of_lt hpm] at h2
    · cases hu
  rcases hr.2 with ⟨rfl, hn⟩ | ⟨g, cap, cur, rfl, hb, hgg, hcap⟩
  · exact ⟨[], by simp [hn], none, 0, by simp [hn], ⟨by simp, by decide⟩, by simp⟩
  · have hX : ∀ j, ∃ x : Option α, j < n → ∃ y, x = some y ∧ F w ((cells.drop (j * m)).take m) y := fun j => by
      by_cases hjn : j < n
      · obtain ⟨x, hx⟩ := hj j hjn; exact ⟨some x, fun _ => ⟨x, rfl, hx⟩⟩
      · exact ⟨none, fun h => absurd h hjn⟩
    refine ⟨(List.range n).filterMap (fun j => Classical.choose (hX j)), ?_, ?_⟩
    all_goals
      have hmap : (List.range n).map (fun j => Classical.choose (hX j)) = ((List.range n).filterMap (fun j => Classical.choose (hX j))).map some := by
        generalize hL : List.range n = L
        have hin : ∀ j ∈ L, j < n := by rw [← hL]; simp
        clear hL
        induction L with
        | nil => rfl
        | cons j L ih =>
          obtain ⟨y, hy, _⟩ := Classical.choose_spec (hX j) (hin j (by simp))
          rw [List.map_cons, List.filterMap_cons, hy, List.map_cons, ih (fun i hi => hin i (by simp [hi]))]
    · have := congrArg List.length hmap
      simpa using this.symm
    · have hlen : ((List.range n).filterMap (fun j => Classical.choose (hX j))).length = n := by
        have := congrArg List.length hmap
        simpa using this.symm
      refine ⟨some ⟨g, 0, none⟩, cap, by rw [hlen], ⟨by rw [hlen]; exact hcap.1, hcap.2.1⟩, fun j x hx => ?_⟩
      have hjn : j < n := by have := (List.getElem?_eq_some_iff.1 hx).1; omega
      have h1 : (j + 1) * m ≤ n * m := Nat.mul_le_mul_right _ hjn
      rw [Nat.succ_mul] at h1
      refine ⟨_, _, rfl, by rw [List.length_take, List.length_drop]; omega, row_cellsAt hr, ?_⟩
      have h2 := congrArg (fun l => l[j]?) hmap
      simp only [List.getElem?_map, hx, List.getElem?_range hjn, Option.map_some] at h2
      injection h2 with h2
      obtain ⟨y, hy, hF'⟩ := Classical.choose_spec (hX j) hjn
      rw [h2] at hy
      injection hy with hy
      subst hy
      exact hF'
end
/-- append of some elements that stand one behind the other. -/
theorem wpList_pushZ {P : Program} {t e : TypeId} {m : Nat} (he : Elem P t e m) {kd : Nat → Value → Prop} {ops : Array Oper} {rest : List Oper} {o : Oper} {act : Act} {Q : Exit → Act → World → Prop} (w : World) (hgd : o.guard = none) (s x : Operand)
    (ho : o.op = .call { callee := .builtin .append, args := #[s, x], argTypes := #[t, t] }) {lo n k : Nat} {v : Value} {a : Addr} {c : Nat} (hs : act.eval s = v) (hx : act.eval x = .slice (some a) k c)
    (h : OwZ kd e m w lo v n) (hlo : lo ≤ w.heap.size) (news : List Value) (hl : news.length = k * m) (hk : ∀ p u, news[p]? = some u → kd (p % m) u)
    (hc : ∀ j u, news[j]? = some u → w.cell? (a.add j) = some u) (h1 : ∀ u ∈ news, u.oneCell' = true) (hlen : n + k ≤ 1073741824)
    (kont : ∀ v' w', OwZ kd e m w' lo v' (n + k) → Fr lo w.heap.size w w' → wpList P ops Q rest (act.put o.dst v') w') :
    wpList P ops Q (o :: rest) act w := by
  refine wpList_plain hgd fun K hK => ?_
  obtain ⟨i, z, ht, hi, hz, hsz, hby, hzs, hm⟩ := he.ex
  obtain ⟨cells, hr, hkd⟩ := h
  obtain ⟨v', w', hrun, hrow, hg, _, hob⟩ := run_append_own_at (P := P) w lo t o.type e i z m i.bytes ht hi hz hsz rfl hzs hm v n cells hr a k c news hl hc h1 (by unfold maxLen; omega) (Nat.le_trans (Nat.mul_le_mul hlen hby) (by decide)) hlo
  have hcl := hr.1
  unfold Oper.wp execOp
  simp only [ho, resolve, invoke, builtin, Sem.run_bind, Sem.run_pure, Result.andThen_ok, List.map_toArray, List.map_cons, List.map_nil, hs, hx, hrun]
  refine hK _ _ (kont v' w' ⟨_, hrow, fun p u hu => ?_⟩ (Fr.grown hg (fun b hb => hr.lt b hb)))
  by_cases hp : p < cells.length
  · rw [List.getElem?_append_left hp] at hu
    exact hkd p u hu
  · rw [List.getElem?_append_right (by omega)] at hu
    have h2 := hk _ u hu
    rw [hcl] at h2
    have h3 : (p - n * m) % m = p % m := by
      conv => rhs; rw [show p = (p - n * m) + m * n by rw [Nat.mul_comm m n]; omega]
      rw [Nat.add_mul_mod_self_left]
    rwa [h3] at h2
/-- append of elements that the call has just laid in a block of their own. -/
theorem wpList_pushZ1 {P : Program} {t e : TypeId} {m : Nat} (he : Elem P t e m) {kd : Nat → Value → Prop} {ops : Array Oper} {rest : List Oper} {o : Oper} {act : Act} {Q : Exit → Act → World → Prop} (W : World) (cs : Array Value) (t' : TypeId) (hgd : o.guard = none) (s x : Operand)
    (ho : o.op = .call { callee := .builtin .append, args := #[s, x], argTypes := #[t, t] }) {lo n k : Nat} {v : Value} {c : Nat} (hs : act.eval s = v) (hx : act.eval x = .slice (some ⟨W.heap.size, 0, none⟩) k c)
    (h : OwZ kd e m W lo v n) (hlo : lo ≤ W.heap.size) (hl : cs.size = k * m) (hk : ∀ p u, cs.toList[p]? = some u → kd (p % m) u)
    (h1 : ∀ u ∈ cs.toList, u.oneCell' = true) (hlen : n + k ≤ 1073741824)
    (kont : ∀ v' w', OwZ kd e m w' lo v' (n + k) → Fr lo W.heap.size W w' → wpList P ops Q rest (act.put o.dst v') w') :
    wpList P ops Q (o :: rest) act (W.alloc (.cells cs t')) := by
  refine wpList_pushZ he (W.alloc (.cells cs t')) hgd s x ho hs hx (h.alloc _) (Nat.le_trans hlo (by simp)) cs.toList (by simpa using hl) hk (fun j u hu => by rw [add_zero_blk]; exact (Blk.new (b := W.heap.size) cs t' rfl).at hu) h1 hlen (fun v' w' h2 h3 => kont v' w' h2 ?_)
  refine ⟨h3.os, h3.tape, h3.output, Nat.le_trans (by simp) h3.size, fun i hi ho => ?_⟩
  rw [h3.block i (by simp; omega) (.inl (by omega))]
  exact Below.heap_alloc W _ i hi
/-- append of an owned row onto a literal without elements. -/
theorem wpList_copyZ {P : Program} {t e : TypeId} {m : Nat} (he : Elem P t e m) {kd : Nat → Value → Prop} {ops : Array Oper} {rest : List Oper} {o : Oper} {act : Act} {Q : Exit → Act → World → Prop} (w : World) (hgd : o.guard = none) (s x : Operand)
    (ho : o.op = .call { callee := .builtin .append, args := #[s, x], argTypes := #[t, t] }) {n B0 : Nat} {v : Value} (hs : act.eval s = .slice (some ⟨w.heap.size, 0, none⟩) 0 0) (hx : act.eval x = v)
    (hv : OwZ kd e m w B0 v n) (hk1 : ∀ p u, kd p u → u.oneCell' = true) (hn : n ≤ 1073741824)
    (kont : ∀ A c w1, OwZ kd e m w1 w.heap.size (.slice A n c) n → Fr w.heap.size w.heap.size w w1 → wpList P ops Q rest (act.put o.dst (.slice A n c)) w1) :
    wpList P ops Q (o :: rest) act (w.alloc (.cells #[] e)) := by
  have L0 : OwZ kd e m (w.alloc (.cells #[] e)) w.heap.size (.slice (some ⟨w.heap.size, 0, none⟩) 0 0) 0 := OwZ.lit0 (Nat.le_refl w.heap.size)
  obtain ⟨cells, hrow, hk⟩ := hv
  rcases hrow.2 with ⟨rfl, hn0⟩ | ⟨gl, cap, cur, rfl, _⟩
  · have hn0 : n = 0 := hn0
    subst hn0
    refine wpList_plain hgd fun K hK => ?_
    obtain ⟨i, z, ht, hi, hz, hsz, hby, hzs, hm⟩ := he.ex
    obtain ⟨c0, hr0, _⟩ := id L0
    have hrun := run_app_nil (ty := o.type) (c := 0) (w.alloc (.cells #[] e)) ht hi hr0
    unfold Oper.wp execOp
    simp only [ho, resolve, invoke, builtin, Sem.run_bind, Sem.run_pure, Result.andThen_ok, List.map_toArray, List.map_cons, List.map_nil, hs, hx, hrun]
    exact hK _ _ (kont _ _ _ L0 ((Fr.refl _ _ w).alloc _))
  · have hrow' : (w.alloc (.cells #[] e)).ownsRow B0 e m (.slice (some ⟨gl, 0, none⟩) n cap) n cells := hrow.alloc _
    refine wpList_pushZ he _ hgd s x ho hs hx L0 (by simp) cells hrow.1 hk (fun j u hu => hrow'.cells (g := gl) rfl j u hu) (fun u hu => ?_) (by omega) ?_
    · obtain ⟨j, hj, rfl⟩ := List.mem_iff_getElem.1 hu
      exact hk1 _ _ (hk j _ (List.getElem?_eq_getElem hj))
    · intro v' w1 h1 h2
      rw [Nat.zero_add] at h1
      obtain ⟨A, c, rfl⟩ := id h1.slice
      refine kont A c w1 h1 ⟨h2.os, h2.tape, h2.output, Nat.le_trans (by simp) h2.size, fun i hi hout => ?_⟩
      rw [h2.block i (by simp; omega) (.inl (by omega))]
      exact Below.heap_alloc w _ i hi
theorem Fr.weak {lo hi lo' hi' : Nat} {a b : World} (h : Fr lo hi a b) (h1 : lo' ≤ lo) (h2 : hi ≤ hi' ∨ a.heap.size ≤ hi') : Fr lo' hi' a b :=
  ⟨h.os, h.tape, h.output, h.size, fun i hi' ho => h.block i hi' (by omega)⟩
end Go.Proofs.Ythdjjgbjemaabaa
