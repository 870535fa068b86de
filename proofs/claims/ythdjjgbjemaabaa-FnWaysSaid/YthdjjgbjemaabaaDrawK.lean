/-
  The draws of keys, and of a choice: whatever the code, they answer keys that can be read, and turn nothing that was there but the reader.
-/
import Derived.Test.YthdjjgbjemaabaaRowZ
import Derived.Test.YthdjjgbjemaabaaTyKeyRow
namespace Go.Proofs.Ythdjjgbjemaabaa
open Go.ChangeShapes Go.WideShapes Go.ChangeAt Go.RowKit Go.Maps
set_option linter.unusedVariables false
set_option linter.unusedSimpArgs false

/-- A reader of a code that lies, with its code, ahead of block B. -/
def Rdk (B : Nat) (w : World) (g : Nat) (xs : List UInt8) (p : Nat) : Prop :=
  ∃ v, w.heap[g]? = some (.cells #[v, .int .i64 p] 246 (0, 0)) ∧ RdB w v xs ∧ xs.length ≤ 2000 ∧ g < B ∧ ∀ ad n c, v = .slice (some ad) n c → 0 < n → ad.block < B
theorem Rdk.rdr {B : Nat} {w : World} {g : Nat} {xs : List UInt8} {p : Nat} (h : Rdk B w g xs p) : Rdr w g xs p := by
  obtain ⟨v, h1, h2, h3, _⟩ := h; exact ⟨v, h1, h2, h3⟩
theorem Rdk.of {w : World} {g : Nat} {xs : List UInt8} {p B : Nat} (h : Rdr w g xs p) (hB : w.heap.size ≤ B) : Rdk B w g xs p := by
  have hlt := h.lt
  obtain ⟨v, h1, h2, h3⟩ := h
  refine ⟨v, h1, h2, h3, by omega, fun ad n c hv hn => ?_⟩
  subst hv
  obtain ⟨ad', _, he, hc⟩ := h2.at_ (k := 0) hn
  injection he with he
  subst he
  have h4 : (ad.add 0).block < w.heap.size := World.block_lt_of_cell? w _ hc
  have h5 : (ad.add 0).block = ad.block := by unfold Addr.add; split <;> rfl
  omega
theorem Rdk.fr {B : Nat} {w w' : World} {g : Nat} {xs : List UInt8} {p lo hi : Nat} (h : Rdk B w g xs p) (hf : Fr lo hi w w') (hlo : B ≤ lo) : Rdk B w' g xs p := by
  have hlt := h.rdr.lt
  obtain ⟨v, h1, h2, h3, h4, h5⟩ := h
  refine ⟨v, by rw [hf.block g hlt (by omega)]; exact h1, ?_, h3, h4, h5⟩
  obtain ⟨A, c, rfl, hc, hx⟩ := h2
  refine ⟨A, c, rfl, hc, fun j x hj => ?_⟩
  obtain ⟨ad, rfl, hcell⟩ := hx j x hj
  refine ⟨ad, rfl, ?_⟩
  have hb := h5 ad _ c rfl (by have := (List.getElem?_eq_some_iff.1 hj).1; omega)
  have h6 : (ad.add j).block = ad.block := by unfold Addr.add; split <;> rfl
  rw [World.cell?_of_block (hf.block (ad.add j).block (World.block_lt_of_cell? w _ hcell) (by omega))]
  exact hcell
theorem Rdk.alloc {B : Nat} {w : World} {g : Nat} {xs : List UInt8} {p : Nat} (h : Rdk B w g xs p) (o : Obj) : Rdk B (w.alloc o) g xs p := by
  obtain ⟨v, h1, h2, h3, h4, h5⟩ := h
  exact ⟨v, by rw [Below.heap_alloc w o g (Array.getElem?_eq_some_iff.1 h1).1]; exact h1, h2.alloc o, h3, h4, h5⟩
theorem Rdk.drewN {B : Nat} {w : World} {g : Nat} {xs : List UInt8} {p : Nat} (h : Rdk B w g xs p) (n : Nat) : Rdk B (w.drewN n) g xs p := h
theorem Rdk.lt {B : Nat} {w : World} {g : Nat} {xs : List UInt8} {p : Nat} (h : Rdk B w g xs p) : g < B := by obtain ⟨v, h1, h2, h3, h4, h5⟩ := h; exact h4
/-- What a drawing of one number leaves; nothing is made. -/
def DrewK (P : Int → Prop) (B : Nat) (w : World) (g : Nat) (xs : List UInt8) (p c : Nat) (e : Ending) (w' : World) : Prop :=
  ∃ (x : Int) (q : Nat), P x ∧ e = .returned (.int .i64 x) ∧ q ≤ p + c ∧ Rdk B w' g xs q ∧ Fr g (g + 1) w w' ∧ w'.heap.size = w.heap.size
theorem pick_k (g p B : Nat) (n : Int) (xs : List UInt8) (w : World) (hr : Rdk B w g xs p) (hp : p ≤ 1099511627776) (hn : 1 ≤ n ∧ n ≤ 4294967296) :
    Calls Try.prog 96 #[.pointer (some ⟨g, 0, none⟩), .int .i64 n] w (DrewK (fun x => 0 ≤ x ∧ x < n) B w g xs p 1) := by
  have h := pick_any g p n.toNat xs w hr.rdr hp (by omega)
  rw [Int.toNat_of_nonneg (by omega)] at h
  refine h.mono ?_
  rintro e w' ⟨x, hx, he, d, hw⟩
  subst hw
  refine ⟨x, p + 1, by omega, he, by omega, ?_, (Fr.setCell _ _ (by simp)).drewN d, by show (w.setCell _ _).heap.size = _; simp [World.setCell]⟩
  obtain ⟨v, h1, h2, h3, h4, h5⟩ := hr
  refine Rdk.drewN ⟨v, ?_, h2.setInt (by rw [cell_of_row w g 1 _ _ _ h1]; rfl) _, h3, h4, h5⟩ d
  rw [heap_setCell_same w g 1 _ _ _ h1]
  rfl
theorem Fr.later {lo hi lo' hi' : Nat} {a b c : World} (h : Fr lo hi a b) (k : Fr lo' hi' b c) (hl : a.heap.size ≤ lo') : Fr lo hi a c :=
  ⟨k.os.trans h.os, k.tape.trans h.tape, k.output.trans h.output, Nat.le_trans h.size k.size, fun i hi1 ho => (k.block i (Nat.lt_of_lt_of_le hi1 h.size) (.inl (by omega))).trans (h.block i hi1 ho)⟩
def isI (_ : Nat) (u : Value) : Prop := ∃ x : Int, u = .int .i64 x
theorem kinds4 {a b c d : Int} : ∀ p u, (#[Value.int .i64 a, .int .i64 b, .int .i64 c, .int .i64 d] : Array Value).toList[p]? = some u → isI (p % 4) u := by
  intro p u hu
  rcases p with _ | _ | _ | _ | p
  all_goals simp at hu
  all_goals (subst hu; exact ⟨_, rfl⟩)
theorem kindsL (zs : List Int) {m : Nat} {cs : Array Value} (h : cs.toList = zs.map itv) : ∀ p u, cs.toList[p]? = some u → isI (p % m) u := by
  intro p u hu
  rw [h, List.getElem?_map] at hu
  obtain ⟨x, _, rfl⟩ := Option.map_eq_some_iff.1 hu
  exact ⟨x, rfl⟩
end Go.Proofs.Ythdjjgbjemaabaa
