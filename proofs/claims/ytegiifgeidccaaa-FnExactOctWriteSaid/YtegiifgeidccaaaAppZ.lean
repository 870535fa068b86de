/-
  append of so many zeros ('append(s, make([]byte, m)...)', which the model has as one operation) onto a row of bytes that is owned.
-/
import Derived.Test.YtegiifgeidccaaaMem
namespace Go.Proofs.Ytegiifgeidccaaa
open Go.ChangeShapes Go.WideShapes Go.ChangeAt Go.RowKit
set_option linter.unusedVariables false

theorem zeroCells_byte (m : Nat) : (Builtin.zeroCells #[.int .u8 0] m).toList = (List.replicate m (0 : UInt8)).map byt := by
  apply List.ext_getElem?
  intro j
  by_cases hj : j < m
  · simp [Builtin.zeroCells, hj, Nat.mod_one, byt]
  · simp [Builtin.zeroCells, hj]
theorem zeroCells_arr (m : Nat) : Builtin.zeroCells #[.int .u8 0] m = ((List.replicate m (0 : UInt8)).map byt).toArray := by
  apply Array.ext'
  rw [zeroCells_byte]
theorem run_asInt (P : Program) (w : World) (k : IntKind) (n : Int) : (asInt (.int k n)).run P w = .ok n w := by simp [asInt, asIntOf]
set_option maxRecDepth 100000 in
theorem run_appZ (w : World) (ty : TypeId) {lo hi : Nat} {v : Value} {xs : List UInt8} (hown : OwB w lo hi v xs) (m : Nat) (hm : m ≤ 4096) (hlen : xs.length + m ≤ 140737488355328) (hlo : lo ≤ w.heap.size) :
    ∃ v' w', (Builtin.append_ #[24, 3] ty #[v, .int .i64 m]).run Try.prog w = .ok v' w' ∧ OwB w' lo w'.heap.size v' (xs ++ List.replicate m 0) ∧ (∀ k, v'.ownBlock = some k → v.ownBlock = some k ∨ k = w.heap.size) ∧ w.grownBy w' v.ownBlock := by
  obtain ⟨i0, hi0, hz0, hz1, hz2⟩ := info_parts info_byte
  have ht := Try.underlying24
  have hu := Try.underlying3
  have hw : IntKind.i64.wrap (m : Int) = m := by rw [IntWalk.i64_in _ (by omega)]
  have hneg : ¬ ((m : Int) < 0) := by omega
  have hbig : ¬ (281474976710656 < (m : Int)) := by omega
  -- the growing arm
  have grown : ∀ (old : Nat), old < xs.length + m → ∀ (row : Option Nat),
      (w.drew.alloc (.cells ((xs.map byt).toArray ++ ((List.replicate m (0 : UInt8)).map byt).toArray ++ Builtin.zeroCells #[.int .u8 0] (grownCap w (xs.length + m) old 5 - (xs.length + m))) 5)).ownsRow lo 5 1
        (.slice (some ⟨w.heap.size, 0, none⟩) (xs.length + m) (grownCap w (xs.length + m) old 5)) (xs.length + m) ((xs ++ List.replicate m 0).map byt) ∧
      w.grownBy (w.drew.alloc (.cells ((xs.map byt).toArray ++ ((List.replicate m (0 : UInt8)).map byt).toArray ++ Builtin.zeroCells #[.int .u8 0] (grownCap w (xs.length + m) old 5 - (xs.length + m))) 5)) row := by
    intro old ho row
    have hge := grownCap_ge w (xs.length + m) old 5
    have hcm : grownCap w (xs.length + m) old 5 ≤ maxLen := grownCap_le_maxLen w (xs.length + m) old 5 (by simp only [maxLen]; omega)
    refine ⟨⟨by simp, .inr ⟨w.heap.size, _, _, rfl, hlo, heap_alloc_new w.drew _, hge, hcm, ?_, ?_⟩⟩, ⟨rfl, rfl, rfl, by simp, fun k hk _ => Below.heap_alloc w.drew _ k hk⟩⟩
    · simp only [Array.size_append, List.size_toArray, size_zeroCells, List.length_map, List.length_replicate]
      simp
      omega
    · simp only [Array.toList_append, List.map_append]
      rw [List.take_append_of_le_length (by simp), List.take_of_length_le (by simp)]
  by_cases hm0 : m = 0
  · subst hm0
    refine ⟨v, w, ?_, by rw [List.replicate_zero, List.append_nil]; exact ⟨hown.1, fun k hk => (hown.1.lt k hk).2⟩, fun k hk => .inl hk, World.grownBy.refl _ _⟩
    rcases hown.1.2 with ⟨rfl, hn0⟩ | ⟨g, cap, cur, rfl, hbg, hg, hnc, hcm, hcs, htake⟩
    · simp [Builtin.append_, run_underlying ht, run_underlying hu, sizeOf, typeInfo, hi0, run_asInt, IntKind.wrap, IntKind.bits, IntKind.signed]
    · simp [Builtin.append_, run_underlying ht, run_underlying hu, sizeOf, typeInfo, hi0, run_asInt, IntKind.wrap, IntKind.bits, IntKind.signed, hnc, storeCells]
  rcases hown.1.2 with ⟨rfl, hn0⟩ | ⟨g, cap, cur, rfl, hbg, hg, hnc, hcm, hcs, htake⟩
  · have hx : xs = [] := List.eq_nil_of_length_eq_zero hn0
    subst hx
    have hr : (Builtin.append_ #[24, 3] ty #[.slice none 0 0, .int .i64 m]).run Try.prog w = .ok (.slice (some ⟨w.heap.size, 0, none⟩) m (grownCap w m 0 5)) (w.drew.alloc (.cells (Builtin.zeroCells #[.int .u8 0] m ++ Builtin.zeroCells #[.int .u8 0] (grownCap w m 0 5 - m)) 5)) := by
      have h48' : ¬ (281474976710656 < Builtin.nextslicecap m 0) := by rw [nextslicecap_zero (by omega)]; omega
      have h63' : ¬ (9223372036854775807 < (m : Int)) := by omega
      simp [Builtin.append_, run_underlying ht, run_underlying hu, sizeOf, typeInfo, zeroValue, hi0, hz0, hz1, hz2, run_asInt, hw, hneg, hbig, hm0, h63', h48', Question.forced, run_firstCells_none, newRow, grownCap]
      rfl
    have hgr := grown 0 (by simp; omega) (Value.ownBlock (.slice none 0 0))
    simp only [List.length_nil, Nat.zero_add, List.nil_append, List.map_nil, Array.empty_append] at hgr
    rw [zeroCells_arr m] at hr
    refine ⟨_, _, hr, OwB.of_row hgr.1 (by simp) (by simp), fun k hk => .inr (by simpa [Value.ownBlock] using hk.symm), hgr.2⟩
  · by_cases hroom : xs.length + m ≤ cap
    · have hst := run_storeCells_at Try.prog g (xs.length * 1) 5 ((List.replicate m (0 : UInt8)).map byt) 0 cur w hg (by simp; omega) (byt_one _)
      simp only [Nat.add_zero, Nat.mul_one] at hst
      have hr : (Builtin.append_ #[24, 3] ty #[.slice (some ⟨g, 0, none⟩) xs.length cap, .int .i64 m]).run Try.prog w = .ok (.slice (some ⟨g, 0, none⟩) (xs.length + m) cap) (w.setRow g (cur.toList.take xs.length ++ (List.replicate m (0 : UInt8)).map byt ++ cur.toList.drop (xs.length + ((List.replicate m (0 : UInt8)).map byt).length)).toArray) := by
        have hz : (Builtin.zeroCells (Value.int IntKind.u8 0).cells m).toList = (List.replicate m (0 : UInt8)).map byt := zeroCells_byte m
        simp [Builtin.append_, run_underlying ht, run_underlying hu, sizeOf, typeInfo, zeroValue, hi0, hz0, hz1, hz2, run_asInt, hw, hneg, hbig, hroom, Addr.add_lit, hm0]
        rw [hz, hst]
        simp
      refine ⟨_, _, hr, OwB.of_row (n := xs.length + m) (ys := (xs ++ List.replicate m 0).map byt) ⟨by simp, .inr ⟨g, cap, _, rfl, hbg, setRow_heap w g cur _ 5 _ hg, hroom, hcm, ?_, ?_⟩⟩ rfl (by simp), fun k hk => .inl hk, ⟨rfl, rfl, rfl, by simp, fun k _ hk => setRow_other w g k _ (fun e => hk (by simp [Value.ownBlock, e]))⟩⟩
      · simp only [List.size_toArray, List.length_append, List.length_take, List.length_drop, Array.length_toList, List.length_map, List.length_replicate]
        omega
      · have h1 : cur.toList.take xs.length = xs.map byt := by simpa using htake
        rw [h1]
        simp only [List.map_append]
        rw [List.take_append_of_le_length (by simp), List.take_of_length_le (by simp)]
    · have holds : ∀ j u, (xs.map byt)[j]? = some u → w.drew.cell? ((⟨g, 0, none⟩ : Addr).add j) = some u := hown.1.cells (g := g) rfl
      have hfo := run_firstCells_some (P := Try.prog) w.drew 1 xs.length ⟨g, 0, none⟩ xs.length cap (xs.map byt) (by simp) holds
      have h63' : ¬ (9223372036854775807 < ((xs.length : Int) + (m : Int))) := by omega
      have h48' : ¬ (281474976710656 < Builtin.nextslicecap (xs.length + m) cap) := by have := growslice_fits (bytes := 1) (show cap < xs.length + m by omega) (by omega); omega
      have hr : (Builtin.append_ #[24, 3] ty #[.slice (some ⟨g, 0, none⟩) xs.length cap, .int .i64 m]).run Try.prog w = .ok (.slice (some ⟨w.heap.size, 0, none⟩) (xs.length + m) (grownCap w (xs.length + m) cap 5)) (w.drew.alloc (.cells ((xs.map byt).toArray ++ ((List.replicate m (0 : UInt8)).map byt).toArray ++ Builtin.zeroCells #[.int .u8 0] (grownCap w (xs.length + m) cap 5 - (xs.length + m))) 5)) := by
        have hz : Builtin.zeroCells (Value.int IntKind.u8 0).cells m = ((List.replicate m (0 : UInt8)).map byt).toArray := zeroCells_arr m
        simp [Builtin.append_, run_underlying ht, run_underlying hu, sizeOf, typeInfo, zeroValue, hi0, hz0, hz1, hz2, run_asInt, hw, hneg, hbig, hroom, hm0, h63', h48', Question.forced, hfo, newRow, grownCap]
        rw [hz, show ((List.replicate m (0 : UInt8)).map byt).toArray = Array.replicate m (byt 0) by simp]
        rfl
      have hgr := grown cap (by omega) (Value.ownBlock (.slice (some ⟨g, 0, none⟩) xs.length cap))
      exact ⟨_, _, hr, OwB.of_row hgr.1 rfl (by simp), fun k hk => .inr (by simpa [Value.ownBlock] using hk.symm), hgr.2⟩
theorem wpList_appZ {ops : Array Oper} {rest : List Oper} {o : Oper} {a : Act} {Q : Exit → Act → World → Prop} (w : World) (hgd : o.guard = none) (s x : Operand)
    (ho : o.op = .call { callee := .builtin .append, args := #[s, x], argTypes := #[24, 3] }) {lo hi : Nat} {v : Value} {xs : List UInt8} (m : Nat) (hs : a.eval s = v) (hx : a.eval x = .int .i64 m)
    (hown : OwB w lo hi v xs) (hm : m ≤ 4096) (hlen : xs.length + m ≤ 140737488355328) (hlo : lo ≤ w.heap.size)
    (h : ∀ v' w', OwB w' lo w'.heap.size v' (xs ++ List.replicate m 0) → (∀ k, v'.ownBlock = some k → v.ownBlock = some k ∨ k = w.heap.size) → w.grownBy w' v.ownBlock → wpList Try.prog ops Q rest (a.put o.dst v') w') :
    wpList Try.prog ops Q (o :: rest) a w := by
  refine wpList_plain hgd fun K hK => ?_
  obtain ⟨v', w', hr, h2, h3, h4⟩ := run_appZ w o.type hown m hm hlen hlo
  unfold Oper.wp execOp
  simp only [ho, resolve, invoke, builtin, Sem.run_bind, Sem.run_pure, Result.andThen_ok, List.map_toArray, List.map_cons, List.map_nil, hs, hx, hr]
  exact hK _ _ (h v' w' h2 h3 h4)
end Go.Proofs.Ytegiifgeidccaaa
