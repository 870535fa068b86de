/-
  The contracts of the laws' own helpers on lists of kinds and bodies.
-/
import Derived.Test.YthdjjgbjemaabaaHlpB
import Derived.Test.YthdjjgbjemaabaaOwn
import Derived.StillTailTactics
namespace Go.Proofs.Ythdjjgbjemaabaa
open Go.ChangeShapes Go.WideShapes Go.ChangeAt Go.RowKit
set_option linter.unusedVariables false

/-- What is left behind so many. -/
def szR (left : Int) (n : Nat) : Int := if (n : Int) ≤ left then left - n else -1
theorem szR_yes {left : Int} {n : Nat} (h : (n : Int) ≤ left) : szR left n = left - n := if_pos h
theorem szR_no {left : Int} {n : Nat} (h : ¬ (n : Int) ≤ left) : szR left n = -1 := if_neg h
set_option maxHeartbeats 400000 in
theorem szByteS_any (v : Value) (xs : List UInt8) (left : Int) (w : World) (hv : RdB w v xs) (hl : 0 ≤ left ∧ left ≤ 1048576) :
    Calls Try.prog 141 #[v, .int .i64 left] w fun e w' => e = .returned (.int .i64 (szR left xs.length)) ∧ w = w' := by
  obtain ⟨A, c, rfl⟩ := hv.slice
  have hc := hv.cap
  clear hv
  by_cases h : (xs.length : Int) ≤ left
  · rw [szR_yes h]
    generalize xs.length = n at *
    go_enter Try.func141, Try.ntmps141
    go_wp2
    go_ret
    exact ⟨rfl, rfl⟩
  · rw [szR_no h]
    generalize xs.length = n at *
    go_enter Try.func141, Try.ntmps141
    go_wp2
    go_ret
    exact ⟨rfl, rfl⟩

theorem row_mono {w : World} {base base' size n : Nat} {e : TypeId} {v : Value} {xs : List Value} (h : w.ownsRow base e size v n xs) (hb : base' ≤ base) : w.ownsRow base' e size v n xs :=
  ⟨h.1, h.2.imp id fun ⟨g, cap, cur, hv, hg, rest⟩ => ⟨g, cap, cur, hv, by omega, rest⟩⟩
theorem below_of_drew {B : Nat} {w w' : World} (h : Below B w.drew w') : Below B w w' := ⟨h.os, h.tape, h.output, h.size, h.block⟩
theorem below3 (w : World) (a b c : Obj) : Below w.heap.size w (((w.alloc a).alloc b).alloc c) := (((Below.refl _ _).alloc (Nat.le_refl _) _).alloc (by simp) _).alloc (by simp; omega) _
theorem bcell {W w1 : World} (hb : Below W.heap.size W w1) : (∀ b o, b < W.heap.size → w1.cell? ⟨b, o, none⟩ = W.cell? ⟨b, o, none⟩) ∧ (∀ b o, b < W.heap.size → w1.frozen? ⟨b, o, none⟩ = W.frozen? ⟨b, o, none⟩) :=
  ⟨fun b o h => hb.cell (p := ⟨b, o, none⟩) h, fun b o h => hb.frozen (p := ⟨b, o, none⟩) h⟩
/-- A kind and a body. -/
structure Tlv where
  kind : Int
  body : List UInt8
def FTlv (w : World) (cs : List Value) (x : Tlv) : Prop := ∃ v, cs = [.int .i64 x.kind, v] ∧ RdB w v x.body
def ETlv (w : World) (f : List Nat) (cs : List Value) (x : Tlv) : Prop := ∃ v, cs = [.int .i64 x.kind, v] ∧ w.ownsRow 0 5 1 v x.body.length (x.body.map byt) ∧ f = v.ownBlock.toList
theorem ETlv.framed : Framed ETlv := by
  rintro w w' f cs x ⟨v, rfl, hr, rfl⟩ hb
  exact ⟨v, rfl, ownsRow_block hr hb, rfl⟩
theorem ETlv.inside : Inside ETlv := by
  rintro w f cs x ⟨v, rfl, hr, rfl⟩ b hb
  exact ownsRow_inside hr b hb
theorem row_owb {w : World} {lo : Nat} {v : Value} {xs : List UInt8} (h : w.ownsRow lo 5 1 v xs.length (xs.map byt)) : OwB w lo w.heap.size v xs := OwB.of_row h rfl rfl
theorem ETlv.rd {w : World} {f : List Nat} {cs : List Value} {x : Tlv} (h : ETlv w f cs x) : FTlv w cs x := by
  obtain ⟨v, rfl, hr, _⟩ := h
  exact ⟨v, rfl, (row_owb hr).rd⟩
theorem FTlv.below {w w' : World} {cs : List Value} {x : Tlv} (h : FTlv w cs x) (hb : Below w.heap.size w w') : FTlv w' cs x := by
  obtain ⟨v, rfl, hr⟩ := h
  exact ⟨v, rfl, hr.below hb⟩

/-- How much there is to be marked. -/
def szTlv (x : Tlv) : Nat := 1 + x.body.length
theorem szTlv_len (xs : List Tlv) : xs.length ≤ szL szTlv xs := by
  induction xs with
  | nil => simp [szL]
  | cons x xs ih => simp only [szL, szTlv, List.length_cons]; omega
theorem szTlv_mem {xs : List Tlv} {x : Tlv} (h : x ∈ xs) : x.body.length ≤ szL szTlv xs := by
  induction xs with
  | nil => cases h
  | cons y ys ih =>
    rcases List.mem_cons.1 h with rfl | h
    · simp only [szL, szTlv]; omega
    · have := ih h; simp only [szL]; omega
/-- What was counted is not too much. -/
def SzTlv (xs : List Tlv) (e : Ending) : Prop := ∃ r : Int, e = .returned (.int .i64 r) ∧ (r = -1 ∨ (0 ≤ r ∧ szL szTlv xs ≤ 1048576))
theorem below2 (w : World) (a b : Obj) : Below w.heap.size w ((w.alloc a).alloc b) := ((Below.refl _ _).alloc (Nat.le_refl _) _).alloc (by simp) _
/-- Marks of one. -/
def mkTlv (k : Int) (x : Tlv) : Tlv := ⟨k, marks (k + 1) x.body.length⟩
theorem markByteS_own (v : Value) (k : Int) (xs : List UInt8) (w : World) (hv : w.ownsRow 0 5 1 v xs.length (xs.map byt)) (hn : xs.length ≤ 4294967296) (hk : 0 ≤ k ∧ k ≤ 1099511627776) :
    Calls Try.prog 128 #[v, .int .i64 k] w fun e w' => e = .returned (.int .i64 (k + xs.length)) ∧ w'.ownsRow 0 5 1 v xs.length ((marks k xs.length).map byt) ∧ FrL v.ownBlock.toList w w' := by
  cases hg : v.ownBlock with
  | none =>
    have ho : OwB w w.heap.size w.heap.size v xs := by
      refine ⟨⟨hv.1, ?_⟩, fun k hk => by rw [hg] at hk; cases hk⟩
      rcases hv.2 with h | ⟨g, cap, cur, rfl, _⟩
      · exact .inl h
      · simp [Value.ownBlock] at hg
    refine (markByteS_any v k xs _ _ w ho hn hk).mono ?_
    rintro e w' ⟨rfl, h1, h2⟩
    refine ⟨rfl, row_mono (by have := h1.1; rw [marks_len] at this; exact this) (Nat.zero_le _), ⟨h2.os, h2.tape, h2.output, h2.size, fun k hk' _ => h2.block k hk' (.inl hk')⟩⟩
  | some g =>
    have ho : OwB w g (g + 1) v xs := by
      refine ⟨⟨hv.1, ?_⟩, fun k hk => by rw [hg] at hk; injection hk with hk; omega⟩
      rcases hv.2 with h | ⟨g', cap, cur, rfl, _, rest⟩
      · exact .inl h
      · simp [Value.ownBlock] at hg
        subst hg
        exact .inr ⟨_, cap, cur, rfl, Nat.le_refl _, rest⟩
    refine (markByteS_any v k xs _ _ w ho hn hk).mono ?_
    rintro e w' ⟨rfl, h1, h2⟩
    exact ⟨rfl, row_mono (by have := h1.1; rw [marks_len] at this; exact this) (Nat.zero_le _), FrL.of_fr h2⟩
theorem ownsRow_form0 {w : World} {base size n : Nat} {e : TypeId} {v : Value} {xs : List Value} (h : w.ownsRow base e size v n xs) (hn : 0 < n) : ∃ g cap, v = .slice (some ⟨g, 0, none⟩) n cap ∧ g < w.heap.size := by
  rcases h.2 with ⟨_, h0⟩ | ⟨g, cap, cur, hv, _, hg, _⟩
  · omega
  · exact ⟨g, cap, hv, (Array.getElem?_eq_some_iff.1 hg).1⟩
theorem OwL.form0 {α : Type} {e : TypeId} {m : Nat} {E : World → List Nat → List Value → α → Prop} {w : World} {bs : List Nat} {A : Option Addr} {n c : Nat} {xs : List α} (h : OwL e m E w bs (.slice A n c) xs) (hn : 0 < n) : ∃ g, A = some ⟨g, 0, none⟩ := by
  have hl := h.len
  obtain ⟨cells, fs, hr, _⟩ := h
  obtain ⟨g, cap, hv, _⟩ := ownsRow_form0 hr (by omega)
  injection hv with h1
  exact ⟨g, h1⟩

end Go.Proofs.Ythdjjgbjemaabaa
