/-
  Words for memory: rows of bytes that the call owns (in a range of blocks), that it reads, and what stays as it was.
-/
import Derived.Test.YthdjjgbjemaabaaRows
import Derived.WalkKit
import Derived.ProofKit
import Derived.OpenShut
import Derived.IntWalk
import Derived.Below
import Derived.Laws.OwnMore
import Derived.OwnWalk
import Derived.Deep.Draws
import Derived.Deep.AppendLies
import Derived.Maps.AppendAt
import Derived.Deep.QuietTactic
import Derived.BigQuiet
import Derived.Lib.Hide
namespace Go.Proofs.Ythdjjgbjemaabaa
open Go.ChangeShapes Go.WideShapes Go.ChangeAt Go.RowKit
set_option linter.unusedVariables false

/-- A byte as a value. -/
def byt (x : UInt8) : Value := .int .u8 (x.toNat : Int)

/-- Outside the blocks lo..hi-1, what was there is as it was; no block has gone. -/
structure Fr (lo hi : Nat) (w w' : World) : Prop where
  os : w'.os = w.os
  tape : w'.tape = w.tape
  output : w'.output = w.output
  size : w.heap.size ≤ w'.heap.size
  block : ∀ k, k < w.heap.size → (k < lo ∨ hi ≤ k) → w'.heap[k]? = w.heap[k]?

theorem Fr.refl (lo hi : Nat) (w : World) : Fr lo hi w w := ⟨rfl, rfl, rfl, Nat.le_refl _, fun _ _ _ => rfl⟩
theorem Fr.trans {lo hi : Nat} {a b c : World} (h : Fr lo hi a b) (k : Fr lo hi b c) : Fr lo hi a c :=
  ⟨k.os.trans h.os, k.tape.trans h.tape, k.output.trans h.output, Nat.le_trans h.size k.size, fun i hi' ho => (k.block i (Nat.lt_of_lt_of_le hi' h.size) ho).trans (h.block i hi' ho)⟩
theorem Fr.mono {lo hi lo' hi' : Nat} {a b : World} (h : Fr lo hi a b) (h1 : lo' ≤ lo) (h2 : hi ≤ hi') : Fr lo' hi' a b :=
  ⟨h.os, h.tape, h.output, h.size, fun i hi' ho => h.block i hi' (by omega)⟩
theorem Fr.drewN {lo hi : Nat} {a b : World} (h : Fr lo hi a b) (n : Nat) : Fr lo hi a (b.drewN n) := ⟨h.os, h.tape, h.output, h.size, h.block⟩
theorem Fr.of_below {lo hi : Nat} {a b : World} (h : Below a.heap.size a b) : Fr lo hi a b := ⟨h.os, h.tape, h.output, h.size, fun i hi' _ => h.block i hi'⟩
theorem Fr.below {lo hi B : Nat} {a b : World} (h : Fr lo hi a b) (hB : B ≤ lo) (hs : B ≤ a.heap.size) : Below B a b := ⟨h.os, h.tape, h.output, h.size, fun i hi' => h.block i (by omega) (by omega)⟩
theorem Fr.grown {lo hi : Nat} {a b : World} {row : Option Nat} (h : a.grownBy b row) (hr : ∀ k, row = some k → lo ≤ k ∧ k < hi) : Fr lo hi a b :=
  ⟨h.os, h.tape, h.output, h.size, fun i hi' ho => h.block i hi' (fun e => by have := hr i e.symm; omega)⟩
theorem below_drewN {B : Nat} {a w : World} (h : Below B a w) (n : Nat) : Below B a (w.drewN n) := ⟨h.os, h.tape, h.output, h.size, h.block⟩

/-- The call owns v, a row of the bytes xs, in one of the blocks lo..hi-1. -/
def OwB (w : World) (lo hi : Nat) (v : Value) (xs : List UInt8) : Prop :=
  w.ownsRow lo 5 1 v xs.length (xs.map byt) ∧ ∀ k, v.ownBlock = some k → k < hi

theorem OwB.fr {w w' : World} {lo hi a b : Nat} {v : Value} {xs : List UInt8} (h : OwB w lo hi v xs) (hf : Fr a b w w') (hd : hi ≤ a ∨ b ≤ lo) : OwB w' lo hi v xs := by
  refine ⟨⟨h.1.1, ?_⟩, h.2⟩
  rcases h.1.2 with hn | ⟨g, cap, cur, rfl, hb, hgg, rest⟩
  · exact .inl hn
  · refine .inr ⟨g, cap, cur, rfl, hb, ?_, rest⟩
    have := h.2 g rfl
    rw [hf.block g (Array.getElem?_eq_some_iff.1 hgg).1 (by omega)]
    exact hgg
theorem OwB.below {w w' : World} {lo hi B : Nat} {v : Value} {xs : List UInt8} (h : OwB w lo hi v xs) (hf : Below B w w') (hd : hi ≤ B) : OwB w' lo hi v xs := by
  refine ⟨⟨h.1.1, ?_⟩, h.2⟩
  rcases h.1.2 with hn | ⟨g, cap, cur, rfl, hb, hgg, rest⟩
  · exact .inl hn
  · refine .inr ⟨g, cap, cur, rfl, hb, ?_, rest⟩
    have := h.2 g rfl
    rw [hf.block g (by omega)]
    exact hgg
theorem OwB.drewN {w : World} {lo hi : Nat} {v : Value} {xs : List UInt8} (h : OwB w lo hi v xs) (n : Nat) : OwB (w.drewN n) lo hi v xs := h
theorem OwB.mono {w : World} {lo hi hi' : Nat} {v : Value} {xs : List UInt8} (h : OwB w lo hi v xs) (hh : hi ≤ hi') : OwB w lo hi' v xs :=
  ⟨h.1, fun k hk => Nat.lt_of_lt_of_le (h.2 k hk) hh⟩
theorem OwB.of_row {w : World} {lo : Nat} {v : Value} {xs : List UInt8} {n : Nat} {ys : List Value} (h : w.ownsRow lo 5 1 v n ys) (hy : ys = xs.map byt) (hn : n = xs.length) : OwB w lo w.heap.size v xs := by
  subst hy hn
  exact ⟨h, fun k hk => (h.lt k hk).2⟩
theorem OwB.nil (w : World) (lo hi : Nat) : OwB w lo hi (.slice none 0 0) [] := ⟨⟨by simp, .inl ⟨rfl, rfl⟩⟩, by simp [Value.ownBlock]⟩

/-- v is a slice of bytes that reads as xs. -/
def RdB (w : World) (v : Value) (xs : List UInt8) : Prop :=
  ∃ A c, v = .slice A xs.length c ∧ (xs.length ≤ c ∧ c ≤ maxLen) ∧ ∀ j x, xs[j]? = some x → ∃ ad, A = some ad ∧ w.cell? (ad.add j) = some (byt x)

theorem RdB.drewN {w : World} {v : Value} {xs : List UInt8} (h : RdB w v xs) (n : Nat) : RdB (w.drewN n) v xs := h
theorem OwB.rd {w : World} {lo hi : Nat} {v : Value} {xs : List UInt8} (h : OwB w lo hi v xs) : RdB w v xs := by
  rcases h.1.2 with ⟨rfl, hn⟩ | ⟨g, cap, cur, rfl, hb, hgg, hcap⟩
  · exact ⟨none, 0, by rw [hn], ⟨by omega, by decide⟩, fun j x hx => by
      have : xs = [] := List.eq_nil_of_length_eq_zero hn
      subst this; simp at hx⟩
  · refine ⟨some ⟨g, 0, none⟩, cap, rfl, ⟨hcap.1, hcap.2.1⟩, fun j x hx => ⟨_, rfl, ?_⟩⟩
    exact h.1.cells (g := g) rfl j (byt x) (by simp [hx])

/-- The cell of a slice at a place that is there. -/
theorem RdB.at_ {w : World} {A : Option Addr} {n c k : Nat} {xs : List UInt8} (h : RdB w (.slice A n c) xs) (hk : k < n) :
    ∃ ad, ∃ hk' : k < xs.length, A = some ad ∧ w.cell? (ad.add k) = some (.int .u8 (xs[k].toNat : Int)) := by
  obtain ⟨A', c', hv, _, hc⟩ := h
  injection hv with h1 h2 h3
  subst h1 h2
  obtain ⟨ad, he, hcell⟩ := hc k xs[k] (by simp [hk])
  exact ⟨ad, hk, he, hcell⟩

theorem RdB.len {w : World} {A : Option Addr} {n c : Nat} {xs : List UInt8} (h : RdB w (.slice A n c) xs) : xs.length = n := by
  obtain ⟨_, _, hv, _⟩ := h
  injection hv with _ h2 _
  exact h2.symm
theorem RdB.cap {w : World} {A : Option Addr} {n c : Nat} {xs : List UInt8} (h : RdB w (.slice A n c) xs) : n ≤ c ∧ c ≤ 9223372036854775807 := by
  obtain ⟨_, _, hv, hc, _⟩ := h
  injection hv with _ h2 h3
  subst h2 h3
  exact hc
theorem RdB.below {w w' : World} {v : Value} {xs : List UInt8} (h : RdB w v xs) (hb : Below w.heap.size w w') : RdB w' v xs := by
  obtain ⟨A, c, rfl, h1, hc⟩ := h
  refine ⟨A, c, rfl, h1, fun j x hx => ?_⟩
  obtain ⟨ad, rfl, hcell⟩ := hc j x hx
  exact ⟨ad, rfl, (hb.cell (World.block_lt_of_cell? w _ hcell)).trans hcell⟩
/-- A store into a cell that holds an int turns no byte. -/
theorem RdB.setInt {w : World} {v : Value} {xs : List UInt8} (h : RdB w v xs) {p : Addr} {q : Int} (hp : w.cell? p = some (.int .i64 q)) (u : Value) : RdB (w.setCell p u) v xs := by
  obtain ⟨A, c, rfl, h1, hc⟩ := h
  refine ⟨A, c, rfl, h1, fun j x hx => ?_⟩
  obtain ⟨ad, rfl, hcell⟩ := hc j x hx
  refine ⟨ad, rfl, ?_⟩
  rw [World.cell?_setCell_other _ _ _ _ (fun e => by rw [← e, hp] at hcell; simp [byt] at hcell)]
  exact hcell
theorem add_of_add (a : Addr) (i j : Nat) : (a.add i).add j = a.add (i + j) := by
  unfold Addr.add
  by_cases hi : i = 0 <;> by_cases hj : j = 0 <;> simp [hi, hj, Nat.add_assoc]
/-- A part of a slice, as Go cuts it: at the capacity's end the address stays. -/
theorem RdB.cutAt {w : World} {A : Option Addr} {n c a k : Nat} {xs : List UInt8} (h : RdB w (.slice A n c) xs) (hk : a + k ≤ n) : RdB w (.slice (A.map (·.add a)) k (c - a)) ((xs.drop a).take k) := by
  obtain ⟨A', c', hv, h1, hc⟩ := h
  injection hv with e1 e2 e3
  subst e1 e2 e3
  refine ⟨_, _, by rw [List.length_take, List.length_drop, Nat.min_eq_left (by omega)], ⟨by simp; omega, by omega⟩, fun j x hx => ?_⟩
  rw [List.getElem?_take] at hx
  split at hx
  · rw [List.getElem?_drop] at hx
    obtain ⟨ad, rfl, hcell⟩ := hc _ _ hx
    exact ⟨ad.add a, rfl, by rw [add_of_add]; exact hcell⟩
  · cases hx
theorem RdB.cutEnd {w : World} {A : Option Addr} {n c a k : Nat} {xs : List UInt8} (h : RdB w (.slice A n c) xs) (hk : a + k ≤ n) (ha : c = a) : RdB w (.slice A k 0) ((xs.drop a).take k) := by
  have hc := h.cap
  have hl := h.len
  obtain rfl : k = 0 := by omega
  exact ⟨A, 0, by simp, ⟨by simp, by decide⟩, by simp⟩
theorem RdB.slice {w : World} {v : Value} {xs : List UInt8} (h : RdB w v xs) : ∃ A c, v = .slice A xs.length c := by
  obtain ⟨A, c, hv, _⟩ := h
  exact ⟨A, c, hv⟩
theorem retI {k : IntKind} {a b : Int} (h : a = b) : Ending.returned (.int k a) = .returned (.int k b) := by rw [h]
theorem retB {a b : Bool} (h : a = b) : Ending.returned (.bool a) = .returned (.bool b) := by rw [h]
theorem take_succ_eq {α : Type} {xs ys : List α} {k : Nat} (hx : k < xs.length) (hy : k < ys.length) (h : xs.take k = ys.take k) (he : xs[k] = ys[k]) : xs.take (k + 1) = ys.take (k + 1) := by
  rw [List.take_succ_eq_append_getElem hx, List.take_succ_eq_append_getElem hy, h, he]
theorem ne_of_at {α : Type} {xs ys : List α} {k : Nat} (hx : k < xs.length) (hy : k < ys.length) (he : ¬ xs[k] = ys[k]) : xs ≠ ys := by
  rintro rfl; exact he rfl

/-- The marks from k on. -/
def marks (k : Int) (n : Nat) : List UInt8 := (List.range n).map fun (i : Nat) => UInt8.ofNat ((k + (i : Int)) % 256).toNat
theorem marks_len (k : Int) (n : Nat) : (marks k n).length = n := by simp [marks]
theorem marks_get (k : Int) (n i : Nat) (h : i < (marks k n).length) : (((marks k n)[i].toNat : Nat) : Int) = (k + i) % 256 := by
  simp only [marks, List.getElem_map, List.getElem_range]
  rw [UInt8.toNat_ofNat']
  omega

theorem marks_set (k : Int) (j : Nat) (xs : List UInt8) (x : UInt8) (h : j < xs.length) (hx : x = UInt8.ofNat ((k + (j : Int)) % 256).toNat) : (marks k j ++ xs.drop j).set j x = marks k (j + 1) ++ xs.drop (j + 1) := by
  subst hx
  rw [List.drop_eq_getElem_cons h]
  have h1 : marks k (j + 1) = marks k j ++ [UInt8.ofNat ((k + (j : Int)) % 256).toNat] := by simp [marks, List.range_succ]
  rw [h1, List.set_append_right _ _ (by rw [marks_len]; omega), marks_len, Nat.sub_self, List.set_cons_zero, List.append_assoc]
  rfl
theorem byt_mod (n : Int) : Value.int .u8 (n % 256) = byt (UInt8.ofNat (n % 256).toNat) := by
  unfold byt; rw [UInt8.toNat_ofNat']; congr 1; omega

theorem OwB.len {w : World} {lo hi : Nat} {A : Option Addr} {n c : Nat} {xs : List UInt8} (h : OwB w lo hi (.slice A n c) xs) : xs.length = n := h.rd.len
/-- A store into a row of bytes that the call owns. -/
theorem OwB.store {w : World} {lo hi g n cap j : Nat} {xs : List UInt8} (h : OwB w lo hi (.slice (some ⟨g, 0, none⟩) n cap) xs) (x : UInt8) :
    OwB (w.setCell ⟨g, j, none⟩ (byt x)) lo hi (.slice (some ⟨g, 0, none⟩) n cap) (xs.set j x) ∧ Fr lo hi w (w.setCell ⟨g, j, none⟩ (byt x)) := by
  have hl := h.len
  have h1 := h.1
  rw [hl] at h1
  obtain ⟨h2, h3⟩ := h1.stored j (byt x)
  have hg := h.2 g rfl
  have hlo := (h1.lt g rfl).1
  refine ⟨⟨?_, h.2⟩, Fr.grown h3 (fun k hk => by injection hk with hk; omega)⟩
  rw [List.length_set, hl, List.map_set]
  exact h2
theorem OwB.form {w : World} {lo hi : Nat} {A : Option Addr} {n c : Nat} {xs : List UInt8} (h : OwB w lo hi (.slice A n c) xs) (hn : 0 < n) : ∃ g, A = some ⟨g, 0, none⟩ ∧ lo ≤ g ∧ g < hi ∧ g < w.heap.size := by
  have hl := h.len
  obtain ⟨g, cap, hv, h1, h2⟩ := h.1.form (by omega)
  injection hv with e1 e2 e3
  subst e1
  exact ⟨g, rfl, h1, h.2 g rfl, h2⟩
theorem OwB.cellAt {w : World} {lo hi g n cap j : Nat} {xs : List UInt8} (h : OwB w lo hi (.slice (some ⟨g, 0, none⟩) n cap) xs) (hj : j < n) : ∃ x : UInt8, w.cell? ⟨g, j, none⟩ = some (.int .u8 (x.toNat : Int)) := by
  have hl := h.len
  have h1 := h.1
  rw [hl] at h1
  have h2 := h1.cellAt j (by omega)
  exact ⟨xs[j], by rw [h2, List.getElem?_map, List.getElem?_eq_getElem (by omega)]; rfl⟩
theorem OwB.frozenAt {w : World} {lo hi g n cap : Nat} {xs : List UInt8} (h : OwB w lo hi (.slice (some ⟨g, 0, none⟩) n cap) xs) (j : Nat) : w.frozen? ⟨g, j, none⟩ = false := by
  have hl := h.len
  have h1 := h.1
  rw [hl] at h1
  exact h1.frozenAt j

theorem info_byte : (Try.prog.info? 5).map (fun i => (i.zero, i.size, i.bytes)) = some (some (.int .u8 0), 1, 1) := by kernel_rfl
theorem run_app_nil {P : Program} (w : World) {t ty e : TypeId} {i : TypeInfo} {base size n c : Nat} {v : Value} {xs : List Value} (ht : P.underlying t = some (.slice e)) (hi : P.info? e = some i)
    (hown : w.ownsRow base e size v n xs) : (Builtin.append_ #[t, t] ty #[v, .slice none 0 c]).run P w = .ok v w := by
  rcases hown.2 with ⟨rfl, rfl⟩ | ⟨g, cap, cur, rfl, _, _, hnc, _⟩
  · simp [Builtin.append_, run_underlying ht, sizeOf, typeInfo, hi, Builtin.lenOf, Builtin.firstCells]
  · simp [Builtin.append_, run_underlying ht, sizeOf, typeInfo, hi, Builtin.lenOf, Builtin.firstCells, hnc, storeCells]
theorem byt_one (ys : List UInt8) : ∀ u ∈ ys.map byt, u.oneCell' = true := by
  intro u hu
  obtain ⟨_, _, rfl⟩ := List.mem_map.1 hu
  rfl
set_option maxRecDepth 100000 in
/-- append of bytes that can be read onto a row of bytes that is owned. -/
theorem run_appB (w : World) (ty : TypeId) {lo hi : Nat} {v u : Value} {xs ys : List UInt8} (hown : OwB w lo hi v xs) (hrd : RdB w u ys) (hlen : xs.length + ys.length ≤ 140737488355328) (hlo : lo ≤ w.heap.size) :
    ∃ v' w', (Builtin.append_ #[22, 22] ty #[v, u]).run Try.prog w = .ok v' w' ∧ OwB w' lo w'.heap.size v' (xs ++ ys) ∧ (∀ k, v'.ownBlock = some k → v.ownBlock = some k ∨ k = w.heap.size) ∧ w.grownBy w' v.ownBlock := by
  obtain ⟨i0, hi0, hz0, hz1, hz2⟩ := info_parts info_byte
  obtain ⟨A, c, rfl, _, hc⟩ := hrd
  rcases A with _ | ad
  · have hy : ys = [] := by
      rcases ys with _ | ⟨y, ys⟩
      · rfl
      · obtain ⟨_, h, _⟩ := hc 0 y rfl; cases h
    subst hy
    refine ⟨v, w, run_app_nil w Try.underlying22 hi0 hown.1, ?_, fun k hk => .inl hk, World.grownBy.refl _ _⟩
    rw [List.append_nil]
    exact ⟨hown.1, fun k hk => (hown.1.lt k hk).2⟩
  · have hcells : ∀ j z, (ys.map byt)[j]? = some z → w.cell? (ad.add j) = some z := by
      intro j z hz
      rw [List.getElem?_map] at hz
      obtain ⟨y, hy, rfl⟩ := Option.map_eq_some_iff.1 hz
      obtain ⟨ad', h, hcell⟩ := hc j y hy
      injection h with h
      subst h
      exact hcell
    obtain ⟨v', w', hrun, h2, h3, _, h5⟩ := run_append_own_at (P := Try.prog) w lo 22 ty 5 i0 _ 1 1 Try.underlying22 hi0 hz0 hz1 hz2 rfl (by omega) v xs.length (xs.map byt) hown.1 ad ys.length c (ys.map byt) (by simp) hcells (byt_one ys) (by simp only [maxLen]; omega) (by omega) hlo
    refine ⟨v', w', hrun, OwB.of_row h2 (by simp) (by simp), fun k hk => ?_, h3⟩
    rcases h5 with h5 | h5
    · left; rw [← h5]; exact hk
    · right; rw [h5] at hk; injection hk with hk; exact hk.symm
set_option maxRecDepth 100000 in
theorem wpList_appB {ops : Array Oper} {rest : List Oper} {o : Oper} {a : Act} {Q : Exit → Act → World → Prop} (w : World) (hgd : o.guard = none) (s x : Operand)
    (ho : o.op = .call { callee := .builtin .append, args := #[s, x], argTypes := #[22, 22] }) {lo hi : Nat} {v u : Value} {xs ys : List UInt8} (hs : a.eval s = v) (hx : a.eval x = u)
    (hown : OwB w lo hi v xs) (hrd : RdB w u ys) (hlen : xs.length + ys.length ≤ 140737488355328) (hlo : lo ≤ w.heap.size)
    (h : ∀ v' w', OwB w' lo w'.heap.size v' (xs ++ ys) → (∀ k, v'.ownBlock = some k → v.ownBlock = some k ∨ k = w.heap.size) → w.grownBy w' v.ownBlock → wpList Try.prog ops Q rest (a.put o.dst v') w') :
    wpList Try.prog ops Q (o :: rest) a w := by
  refine wpList_plain hgd fun K hK => ?_
  obtain ⟨v', w', hr, h2, h3, h4⟩ := run_appB w o.type hown hrd hlen hlo
  unfold Oper.wp execOp
  simp only [ho, resolve, invoke, builtin, Sem.run_bind, Sem.run_pure, Result.andThen_ok, List.map_toArray, List.map_cons, List.map_nil, hs, hx, hr]
  exact hK _ _ (h v' w' h2 h3 h4)
/-- One byte in a block of its own, as 'append(s, x)' lays it. -/
theorem rd_new (w : World) (x : UInt8) (t : TypeId) : RdB (w.alloc (.cells #[byt x] t)) (.slice (some ⟨w.heap.size, 0, none⟩) 1 1) [x] := by
  refine ⟨_, 1, rfl, ⟨by simp, by decide⟩, fun j y hy => ⟨_, rfl, ?_⟩⟩
  match j, hy with
  | 0, hy =>
    simp at hy
    subst hy
    simp [Addr.add]
theorem OwB.alloc {w : World} {lo hi : Nat} {v : Value} {xs : List UInt8} (h : OwB w lo hi v xs) (o : Obj) : OwB (w.alloc o) lo hi v xs := ⟨h.1.alloc o, h.2⟩
theorem rd_new' (w : World) (V : Value) (x : UInt8) (t : TypeId) (hV : V = byt x) : RdB (w.alloc (.cells #[V] t)) (.slice (some ⟨w.heap.size, 0, none⟩) 1 1) [x] := by
  subst hV; exact rd_new w x t
theorem byt_val {V : Int} {m : Nat} (h : V = ((m % 256 : Nat) : Int)) : Value.int .u8 V = byt (UInt8.ofNat m) := by
  subst h; unfold byt; rw [UInt8.toNat_ofNat']
/-- What an append onto an owned row leaves, seen from where the row was begun. -/
theorem app_fr {w wr w1 w' : World} {lo hi : Nat} {u v' : Value} (hk : ∀ k, u.ownBlock = some k → k < hi ∨ w.heap.size ≤ k) (ho : ∀ k, u.ownBlock = some k → lo ≤ k) (hf : Fr lo hi w wr) (hb : Below wr.heap.size wr w1)
    {H : Nat} (h2 : ∀ k, v'.ownBlock = some k → u.ownBlock = some k ∨ k = H) (hH : wr.heap.size ≤ H) (h3 : w1.grownBy w' u.ownBlock) : (∀ k, v'.ownBlock = some k → k < hi ∨ w.heap.size ≤ k) ∧ Fr lo hi w w' := by
  have hs1 := hf.size
  have hs2 := hb.size
  have hs3 := h3.size
  refine ⟨fun k hk' => ?_, ⟨(h3.os.trans hb.os).trans hf.os, (h3.tape.trans hb.tape).trans hf.tape, (h3.output.trans hb.output).trans hf.output, by omega, fun i hi' hout => ?_⟩⟩
  · rcases h2 k hk' with h | h
    · exact hk k h
    · right; omega
  · rw [h3.block i (by omega) (fun e => by
      have h5 := hk i e.symm
      have h6 := ho i e.symm
      omega), hb.block i (by omega)]
    exact hf.block i hi' hout
theorem OwB.lo_le {w : World} {lo hi : Nat} {v : Value} {xs : List UInt8} (h : OwB w lo hi v xs) : ∀ k, v.ownBlock = some k → lo ≤ k := fun k hk => (h.1.lt k hk).1
/-- A literal of bytes in a block of its own. -/
theorem OwB.lit (w : World) (cs : Array Value) (xs : List UInt8) (n lo : Nat) (hcs : cs.toList = xs.map byt) (hn : xs.length = n) (hm : n ≤ maxLen) (hlo : lo ≤ w.heap.size) : OwB (w.alloc (.cells cs 5)) lo (w.alloc (.cells cs 5)).heap.size (.slice (some ⟨w.heap.size, 0, none⟩) n n) xs := by
  have h := World.ownsRow_lit (base := lo) (e := 5) (size := 1) w cs n hlo hm (by rw [← Array.length_toList, hcs]; simpa using hn)
  exact OwB.of_row h hcs hn.symm
theorem OwB.made {w : World} {n lo : Nat} {V : Value} (h : w.ownsRow lo 5 1 V n (madeCells #[.int .u8 0] (n * 1)).toList) : OwB w lo w.heap.size V (List.replicate n 0) := by
  refine OwB.of_row h ?_ (by simp)
  rw [toList_madeCells_one]; simp [byt]
theorem replicate_set (xs : List UInt8) (j : Nat) (hj : j < xs.length) : (xs.take j ++ List.replicate (xs.length - j) 0).set j xs[j] = xs.take (j + 1) ++ List.replicate (xs.length - (j + 1)) 0 := by
  rw [List.set_append_right _ _ (by simp; omega)]
  rw [show xs.length - j = (xs.length - (j + 1)) + 1 by omega, List.replicate_succ]
  rw [show j - (List.take j xs).length = 0 by simp; omega, List.set_cons_zero, List.take_succ_eq_append_getElem hj, List.append_assoc]
  rfl

end Go.Proofs.Ythdjjgbjemaabaa
