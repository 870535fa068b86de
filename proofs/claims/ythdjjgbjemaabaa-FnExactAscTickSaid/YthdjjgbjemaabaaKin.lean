/-
  Lists of bytes and of numbers under one form with lists of structs: what reads, what the call owns (by its blocks), and the laws' helpers on them. My own words.
-/
import Derived.Test.YthdjjgbjemaabaaTlv
import Derived.Test.YthdjjgbjemaabaaHlpI
import Derived.Test.YthdjjgbjemaabaaBlk
import Derived.Test.YthdjjgbjemaabaaRow
namespace Go.Proofs.Ythdjjgbjemaabaa
open Go.ChangeShapes Go.WideShapes Go.ChangeAt Go.RowKit
set_option linter.unusedVariables false

/-- Blocks that are new between two sizes, each once. -/
def Nw (lo hi : Nat) (f : List Nat) : Prop := f.Nodup ∧ ∀ b ∈ f, lo ≤ b ∧ b < hi
theorem Nw.nil (lo hi : Nat) : Nw lo hi [] := ⟨by simp, by simp⟩
theorem Nw.mono {lo hi lo' hi' : Nat} {f : List Nat} (h : Nw lo hi f) (h1 : lo' ≤ lo) (h2 : hi ≤ hi') : Nw lo' hi' f := ⟨h.1, fun b hb => ⟨Nat.le_trans h1 (h.2 b hb).1, Nat.lt_of_lt_of_le (h.2 b hb).2 h2⟩⟩
theorem Nw.app {lo mid hi : Nat} {f g : List Nat} (h : Nw lo mid f) (k : Nw mid hi g) (h1 : lo ≤ mid) (h2 : mid ≤ hi) : Nw lo hi (f ++ g) := by
  refine ⟨List.nodup_append.2 ⟨h.1, k.1, fun a ha b hb => ?_⟩, fun b hb => ?_⟩
  · have := (h.2 a ha).2; have := (k.2 b hb).1; omega
  · rcases List.mem_append.1 hb with hb | hb
    · have := h.2 b hb; omega
    · have := k.2 b hb; omega
theorem Nw.not {lo hi : Nat} {f : List Nat} (h : Nw lo hi f) {bs : List Nat} (hb : ∀ b ∈ bs, b < lo) : ∀ b ∈ f, b ∉ bs := fun b hf hm => by have := (h.2 b hf).1; have := hb b hm; omega
theorem heap_setCell_far (w : World) (g o k : Nat) (v : Value) (h : k ≠ g) : (w.setCell ⟨g, o, none⟩ v).heap[k]? = w.heap[k]? := Below.heap_setCell w ⟨g, o, none⟩ v k h
theorem FrL.set {bs : List Nat} {a b : World} (h : FrL bs a b) {g o : Nat} (v : Value) (hg : g ∈ bs) : FrL bs a (b.setCell ⟨g, o, none⟩ v) :=
  ⟨h.os, h.tape, h.output, by simpa [World.setCell] using h.size, fun i hi ho => (heap_setCell_far b g o i v (fun e => ho (e ▸ hg))).trans (h.block i hi ho)⟩

/-- Owned bytes, by their block. -/
def OwBy (w : World) (f : List Nat) (v : Value) (xs : List UInt8) : Prop := w.ownsRow 0 5 1 v xs.length (xs.map byt) ∧ f = v.ownBlock.toList
theorem OwBy.keep {w w' : World} {f : List Nat} {v : Value} {xs : List UInt8} (h : OwBy w f v xs) (hb : ∀ b ∈ f, w'.heap[b]? = w.heap[b]?) : OwBy w' f v xs := by
  obtain ⟨h1, rfl⟩ := h
  exact ⟨ownsRow_block h1 hb, rfl⟩
theorem OwBy.inside {w : World} {f : List Nat} {v : Value} {xs : List UInt8} (h : OwBy w f v xs) : ∀ b ∈ f, b < w.heap.size := by
  obtain ⟨h1, rfl⟩ := h
  exact ownsRow_inside h1
theorem OwBy.rd {w : World} {f : List Nat} {v : Value} {xs : List UInt8} (h : OwBy w f v xs) : RdB w v xs := (row_owb h.1).rd
/-- Owned numbers, by their block. -/
def OwIn (w : World) (f : List Nat) (v : Value) (xs : List Int) : Prop := w.ownsRow 0 3 1 v xs.length (xs.map itv) ∧ f = v.ownBlock.toList
theorem OwIn.keep {w w' : World} {f : List Nat} {v : Value} {xs : List Int} (h : OwIn w f v xs) (hb : ∀ b ∈ f, w'.heap[b]? = w.heap[b]?) : OwIn w' f v xs := by
  obtain ⟨h1, rfl⟩ := h
  exact ⟨ownsRow_block h1 hb, rfl⟩
theorem OwIn.inside {w : World} {f : List Nat} {v : Value} {xs : List Int} (h : OwIn w f v xs) : ∀ b ∈ f, b < w.heap.size := by
  obtain ⟨h1, rfl⟩ := h
  exact ownsRow_inside h1
theorem OwIn.rd {w : World} {f : List Nat} {v : Value} {xs : List Int} (h : OwIn w f v xs) : RdI w v xs := (OwI.of_row h.1 rfl rfl).rd

theorem own_nw {w : World} {lo : Nat} {v : Value} (h : ∀ k, v.ownBlock = some k → lo ≤ k ∧ k < w.heap.size) : Nw lo w.heap.size v.ownBlock.toList :=
  ⟨by cases v.ownBlock <;> simp, fun b hb => h b (by simpa using hb)⟩
theorem szByteS_z (v : Value) (xs : List UInt8) (left : Int) (w : World) (hv : RdB w v xs) (hl : 0 ≤ left ∧ left ≤ 1048576) :
    Calls Try.prog 141 #[v, .int .i64 left] w fun e w' => e = .returned (.int .i64 (szR left xs.length)) ∧ Below w.heap.size w w' :=
  (szByteS_any v xs left w hv hl).mono fun e w' h => ⟨h.1, by rw [← h.2]; exact Below.refl _ _⟩
theorem szIntS_z (v : Value) (xs : List Int) (left : Int) (w : World) (hv : RdI w v xs) (hl : 0 ≤ left ∧ left ≤ 1048576) :
    Calls Try.prog 118 #[v, .int .i64 left] w fun e w' => e = .returned (.int .i64 (szR left xs.length)) ∧ Below w.heap.size w w' :=
  (szIntS_any v xs left w hv hl).mono fun e w' h => ⟨h.1, by rw [← h.2]; exact Below.refl _ _⟩
theorem toByteS_n (v : Value) (xs : List UInt8) (w : World) (hv : RdB w v xs) (hn : xs.length ≤ 1048576) :
    Calls Try.prog 148 #[v] w fun e w' => ∃ v' f, e = .returned v' ∧ OwBy w' f v' xs ∧ Nw w.heap.size w'.heap.size f ∧ Below w.heap.size w w' :=
  (toByteS_any v xs w hv (by omega)).mono fun e w' ⟨v', he, ho, hb⟩ => ⟨v', _, he, ⟨row_mono ho.1 (Nat.zero_le _), rfl⟩, own_nw (fun k hk => ho.1.lt k hk), hb⟩
theorem toIntS_n (v : Value) (xs : List Int) (w : World) (hv : RdI w v xs) (hn : xs.length ≤ 1048576) :
    Calls Try.prog 26 #[v] w fun e w' => ∃ v' f, e = .returned v' ∧ OwIn w' f v' xs ∧ Nw w.heap.size w'.heap.size f ∧ Below w.heap.size w w' :=
  (toIntS_any v xs w hv (by omega)).mono fun e w' ⟨v', he, ho, hb⟩ => ⟨v', _, he, ⟨row_mono ho.1 (Nat.zero_le _), rfl⟩, own_nw (fun k hk => ho.1.lt k hk), hb⟩
theorem eqByteS_s (u v : Value) (xs : List UInt8) (w : World) (hu : RdB w u xs) (hv : RdB w v xs) (hn : xs.length ≤ 1048576) :
    Calls Try.prog 155 #[u, v] w fun e w' => e = .returned (.bool true) ∧ Below w.heap.size w w' :=
  (eqByteS_any u v xs xs w hu hv (by omega) (by omega)).mono fun e w' ⟨he, n, hw⟩ => ⟨by rw [he, beq_self_eq_true], by rw [hw]; exact below_drewN (Below.refl _ _) _⟩
theorem eqIntS_s (u v : Value) (xs : List Int) (w : World) (hu : RdI w u xs) (hv : RdI w v xs) (hn : xs.length ≤ 1048576) :
    Calls Try.prog 29 #[u, v] w fun e w' => e = .returned (.bool true) ∧ Below w.heap.size w w' :=
  (eqIntS_any u v xs xs w hu hv (by omega) (by omega)).mono fun e w' ⟨he, n, hw⟩ => ⟨by rw [he, beq_self_eq_true], by rw [hw]; exact below_drewN (Below.refl _ _) _⟩

/-- How much a list and what lies in it take. -/
def zL {α : Type} (z : α → Nat) (xs : List α) : Nat := xs.length + szL z xs
theorem szL_mem {α : Type} {z : α → Nat} {xs : List α} {x : α} (h : x ∈ xs) : z x ≤ szL z xs := by
  induction xs with
  | nil => cases h
  | cons y ys ih =>
    rcases List.mem_cons.1 h with rfl | h
    · simp only [szL]; omega
    · have := ih h; simp only [szL]; omega
theorem szR_cases (left : Int) (n : Nat) (hl : left ≤ 1048576) : (szR left n = -1 ∧ left < n) ∨ (0 ≤ szR left n ∧ szR left n ≤ 1048576 ∧ szR left n + n = left) := by unfold szR; split <;> omega
theorem info_parts2 {P : Program} {e : TypeId} {z : Value} {size : Nat} (h : (P.info? e).map (fun i => (i.zero, i.size)) = some (some z, size)) (hb : (match P.info? e with | some i => decide (i.bytes ≤ 4096) | none => false) = true) :
    ∃ i, P.info? e = some i ∧ i.zero = some z ∧ i.size = size ∧ i.bytes ≤ 4096 := by
  obtain ⟨i, hi, hzz⟩ := Option.map_eq_some_iff.1 h
  simp only [Prod.mk.injEq] at hzz
  rw [hi] at hb
  exact ⟨i, hi, hzz.1, hzz.2, of_decide_eq_true hb⟩
theorem make_room {b n : Nat} (hb : b ≤ 4096) (hn : n ≤ 1048576) : b * n ≤ 281474976710656 := Nat.le_trans (Nat.mul_le_mul hb hn) (by decide)
theorem size_set (w : World) (a : Addr) (v : Value) : (w.setCell a v).heap.size = w.heap.size := by simp [World.setCell]
theorem boolCell {H : Type} {enc : TypeId × Value → H} {w : World} {base : Nat} {spare : Nat → Bool} {held : Bool} {n : Nat} {c : Value} {y : DataW H × List MemPlace} (h : DataW.trod enc Try.prog w base spare held n 4 [c] = some y) : ∃ b, c = .bool b := by
  obtain ⟨q, h3, _⟩ := DataW.trod_bool Try.underlying4 h
  exact ⟨q, by simpa using h3⟩
theorem intCell {H : Type} {enc : TypeId × Value → H} {w : World} {base : Nat} {spare : Nat → Bool} {held : Bool} {n : Nat} {c : Value} {y : DataW H × List MemPlace} (h : DataW.trod enc Try.prog w base spare held n 3 [c] = some y) : ∃ q, c = .int .i64 q := by
  obtain ⟨q, h3, _, _⟩ := DataW.trod_int Try.underlying3 h
  exact ⟨q, by simpa using h3⟩
theorem cellsInt : Try.prog.cellsOf 3 = 1 := by kernel_rfl
theorem cellsBool : Try.prog.cellsOf 4 = 1 := by kernel_rfl
theorem cellsBytes : Try.prog.cellsOf 22 = 1 := by kernel_rfl
theorem cellsInts : Try.prog.cellsOf 35 = 1 := by kernel_rfl
set_option maxRecDepth 100000 in
theorem open_rdi {H : Type} {enc : TypeId × Value → H} {w : World} {base : Nat} {spare : Nat → Bool} {held : Bool} {fuel : Nat} {v : Value} {y : DataW H × List MemPlace} (h : DataW.trod enc Try.prog w base spare held fuel 35 [v] = some y) : ∃ xs, RdI w v xs := by
  rcases Deep.open_slice1 Try.underlying35 cellsInt h with ⟨h0, _⟩ | ⟨a, len, cap, m, k, V, D, Pl, h0, _, hl, hm, hmm, _, hx⟩
  · injection h0 with h0; subst h0
    exact ⟨[], none, 0, rfl, ⟨by simp, by decide⟩, by simp⟩
  · injection h0 with h0; subst h0
    have hb : ∀ i, i < len → ∃ x : Int, w.cell? (a.add i) = some (itv x) := fun i hi => by
      obtain ⟨h1, h2⟩ := hx i (by rw [hmm]; split <;> omega)
      obtain ⟨q, h3, _, hw⟩ := DataW.trod_int Try.underlying3 h2
      simp at h3
      exact ⟨q, by rw [h1, h3]; rfl⟩
    obtain ⟨X, hX⟩ := Deep.choose_lt (α := Int) (p := fun i x => w.cell? (a.add i) = some (itv x)) hb
    refine ⟨(List.range len).map X, some a, cap, by simp, ⟨by simpa using hl, hm⟩, fun j x hj => ⟨a, rfl, ?_⟩⟩
    rw [List.getElem?_map] at hj
    obtain ⟨i, hi, rfl⟩ := Option.map_eq_some_iff.1 hj
    obtain ⟨h1, rfl⟩ := List.getElem?_eq_some_iff.1 hi
    simp at h1 ⊢
    exact hX j h1
end Go.Proofs.Ythdjjgbjemaabaa
