/-
  append onto a row of numbers that the call owns; small words for the laws with answers in new memory. My own words.
-/
import Derived.Test.YthdjjgbjemaabaaMark
import Derived.Test.YthdjjgbjemaabaaApp
namespace Go.Proofs.Ythdjjgbjemaabaa
open Go.ChangeShapes Go.WideShapes Go.ChangeAt Go.RowKit
set_option linter.unusedVariables false

theorem itv_one (ys : List Int) : ∀ u ∈ ys.map itv, u.oneCell' = true := by
  intro u hu
  obtain ⟨_, _, rfl⟩ := List.mem_map.1 hu
  rfl
set_option maxRecDepth 100000 in
theorem run_appIn (w : World) (ty : TypeId) {lo : Nat} {f : List Nat} {v u : Value} {xs ys : List Int} (hown : OwIn w f v xs) (hn : Nw lo w.heap.size f) (hrd : RdI w u ys) (hlen : xs.length + ys.length ≤ 1073741824) (hlo : lo ≤ w.heap.size) :
    ∃ v' w' f', (Builtin.append_ #[35, 35] ty #[v, u]).run Try.prog w = .ok v' w' ∧ OwIn w' f' v' (xs ++ ys) ∧ Nw lo w'.heap.size f' ∧ w.grownBy w' v.ownBlock := by
  obtain ⟨i0, hi0, hz0, hz1, hz2⟩ := info_parts info_int
  obtain ⟨hr, rfl⟩ := hown
  obtain ⟨A, c, rfl, _, hc⟩ := hrd
  rcases A with _ | ad
  · have hy : ys = [] := by
      rcases ys with _ | ⟨y, ys⟩
      · rfl
      · obtain ⟨_, h, _⟩ := hc 0 y rfl; cases h
    subst hy
    refine ⟨v, w, _, run_app_nil w Try.underlying35 hi0 hr, ?_, hn, World.grownBy.refl _ _⟩
    rw [List.append_nil]
    exact ⟨hr, rfl⟩
  · have hcells : ∀ j z, (ys.map itv)[j]? = some z → w.cell? (ad.add j) = some z := by
      intro j z hz
      rw [List.getElem?_map] at hz
      obtain ⟨y, hy, rfl⟩ := Option.map_eq_some_iff.1 hz
      obtain ⟨ad', h, hcell⟩ := hc j y hy
      injection h with h
      subst h
      exact hcell
    obtain ⟨v', w', hrun, h2, h3, _, h5⟩ := run_append_own_at (P := Try.prog) w 0 35 ty 3 i0 _ 1 8 Try.underlying35 hi0 hz0 hz1 hz2 rfl (by omega) v xs.length (xs.map itv) hr ad ys.length c (ys.map itv) (by simp) hcells (itv_one ys) (by simp only [maxLen]; omega) (by omega) (Nat.zero_le _)
    refine ⟨v', w', v'.ownBlock.toList, hrun, ⟨by rw [List.length_append, List.map_append]; exact h2, rfl⟩, ⟨by cases v'.ownBlock <;> simp, fun b hb => ⟨?_, ownsRow_inside h2 b hb⟩⟩, h3⟩
    rcases h5 with h5 | h5
    · rw [h5] at hb; exact (hn.2 b hb).1
    · rw [h5] at hb
      have hb : b = w.heap.size := by simpa using hb
      omega
set_option maxRecDepth 100000 in
theorem wpList_appIn {ops : Array Oper} {rest : List Oper} {o : Oper} {a : Act} {Q : Exit → Act → World → Prop} (w : World) (hgd : o.guard = none) (s x : Operand)
    (ho : o.op = .call { callee := .builtin .append, args := #[s, x], argTypes := #[35, 35] }) {lo : Nat} {f : List Nat} {v u : Value} {xs ys : List Int} (hs : a.eval s = v) (hx : a.eval x = u)
    (hown : OwIn w f v xs) (hn : Nw lo w.heap.size f) (hrd : RdI w u ys) (hlen : xs.length + ys.length ≤ 1073741824) (hlo : lo ≤ w.heap.size)
    (h : ∀ v' w' f', OwIn w' f' v' (xs ++ ys) → Nw lo w'.heap.size f' → w.grownBy w' v.ownBlock → wpList Try.prog ops Q rest (a.put o.dst v') w') :
    wpList Try.prog ops Q (o :: rest) a w := by
  refine wpList_plain hgd fun K hK => ?_
  obtain ⟨v', w', f', hr, h2, h3, h4⟩ := run_appIn w o.type hown hn hrd hlen hlo
  unfold Oper.wp execOp
  simp only [ho, resolve, invoke, builtin, Sem.run_bind, Sem.run_pure, Result.andThen_ok, List.map_toArray, List.map_cons, List.map_nil, hs, hx, hr]
  exact hK _ _ (h v' w' f' h2 h3 h4)
theorem OwIn.nil (w : World) : OwIn w [] (.slice none 0 0) [] := ⟨⟨by simp, .inl ⟨rfl, rfl⟩⟩, by simp [Value.ownBlock]⟩
theorem OwIn.lit0 (w : World) : OwIn (w.alloc (.cells #[] 3)) [w.heap.size] (.slice (some ⟨w.heap.size, 0, none⟩) 0 0) [] :=
  ⟨⟨by simp, .inr ⟨w.heap.size, 0, #[], rfl, Nat.zero_le _, heap_alloc_new w _, by simp, by unfold maxLen; omega, by simp, by simp⟩⟩, by simp [Value.ownBlock]⟩
theorem OwIn.own {w : World} {f : List Nat} {v : Value} {xs : List Int} (h : OwIn w f v xs) : v.ownBlock.toList = f := h.2.symm
theorem Blk.rdI' {w : World} {b : Nat} (y : Int) (h : Blk w b [.int .i64 y]) : RdI w (.slice (some ⟨b, 0, none⟩) 1 1) [y] := by
  refine ⟨some ⟨b, 0, none⟩, 1, rfl, ⟨by simp, by unfold maxLen; omega⟩, fun j x hj => ⟨_, rfl, ?_⟩⟩
  rcases j with _ | j
  · simp only [List.getElem?_cons_zero, Option.some.injEq] at hj
    subst hj
    rw [add_zero_blk]
    exact h.at rfl
  · simp at hj
theorem Nw.sub {lo hi : Nat} {f g : List Nat} (h : Nw lo hi g) (hf : ∀ b ∈ f, b ∈ g) (hn : f.Nodup) : Nw lo hi f := ⟨hn, fun b hb => h.2 b (hf b hb)⟩
theorem Nw.left {lo hi : Nat} {f g : List Nat} (h : Nw lo hi (f ++ g)) : Nw lo hi f := h.sub (fun b hb => by simp [hb]) (List.nodup_append.1 h.1).1
theorem Nw.right {lo hi : Nat} {f g : List Nat} (h : Nw lo hi (f ++ g)) : Nw lo hi g := h.sub (fun b hb => by simp [hb]) (List.nodup_append.1 h.1).2.1
theorem Nw.apart {lo hi : Nat} {f g : List Nat} (h : Nw lo hi (f ++ g)) : ∀ b ∈ f, b ∉ g := fun b hf hg => (List.nodup_append.1 h.1).2.2 b hf b hg rfl
theorem Nw.far {lo hi lo' hi' : Nat} {f g : List Nat} (h : Nw lo hi f) (k : Nw lo' hi' g) (hd : hi ≤ lo' ∨ hi' ≤ lo) : ∀ b ∈ f, b ∉ g := fun b hf hg => by have := h.2 b hf; have := k.2 b hg; omega
theorem Nw.notin {lo hi b : Nat} {f : List Nat} (h : Nw lo hi f) (hd : b < lo ∨ hi ≤ b) : b ∉ f := fun hb => by have := h.2 b hb; omega
theorem FrL.belowNw {lo hi B : Nat} {f : List Nat} {a b : World} (h : FrL f a b) (hn : Nw lo hi f) (hB : B ≤ lo) (hs : B ≤ a.heap.size) : Below B a b := h.below (fun k hk => Nat.le_trans hB (hn.2 k hk).1) hs
end Go.Proofs.Ythdjjgbjemaabaa
