/-
  A gateway that is gone, as plain functions. (Written by wip/tools/genbookg.py.)
-/
import Derived.Test.YthdjjgbjemaabaaBookF
import Derived.Test.YthdjjgbjemaabaaOwPut
import Derived.Test.YthdjjgbjemaabaaTyMsgWord
namespace Go.Proofs.Ythdjjgbjemaabaa
open Go.ChangeShapes Go.WideShapes Go.ChangeAt Go.RowKit
set_option linter.unusedVariables false
set_option linter.unusedSimpArgs false

/-- The place of a gateway. -/
def atG (gs : List DAspGate) (gate : Int) : Option Nat := gs.findIdx? fun g => g.xGate == gate
def atI (gs : List DAspGate) (gate : Int) : Int := match atG gs gate with | some k => (k : Int) | none => -1
theorem atG_here {gs : List DAspGate} {gate : Int} {j : Nat} (hj : j < gs.length) (h : gs[j].xGate = gate) (hb : ∀ i (hi : i < gs.length), i < j → ¬ gs[i].xGate = gate) : atG gs gate = some j := by
  unfold atG
  rw [List.findIdx?_eq_some_iff_getElem]
  exact ⟨hj, by simpa using h, fun i hi => by simpa using hb i (by omega) hi⟩
theorem atG_none {gs : List DAspGate} {gate : Int} (hb : ∀ i (hi : i < gs.length), ¬ gs[i].xGate = gate) : atG gs gate = none := by
  unfold atG
  rw [List.findIdx?_eq_none_iff]
  intro g hg
  obtain ⟨i, hi, rfl⟩ := List.getElem_of_mem hg
  simpa using hb i hi
theorem atG_spec {gs : List DAspGate} {gate : Int} {k : Nat} (h : atG gs gate = some k) : ∃ hk : k < gs.length, gs[k].xGate = gate := by
  unfold atG at h
  rw [List.findIdx?_eq_some_iff_getElem] at h
  obtain ⟨hk, h1, _⟩ := h
  exact ⟨hk, by simpa using h1⟩
def goneB (x : DAspBook) (gate : Int) : DAspBook := match atG x.xGates gate with | some k => { x with xGates := x.xGates.set k (zeroG gate) } | none => x
noncomputable def goneF (x : DAspBook) (gate : Int) : DAspBook := if aspOk x = true then goneB x gate else emptyBook
def upWord : DMsgWord := ⟨1, 0, 0, 0, 0, []⟩
noncomputable def riseSays (x : DAspBook) (gate : Int) : List DMsgWord := if aspOk x = true ∧ (atG x.xGates gate).isSome = true then [upWord] else []
theorem gone_no {x : DAspBook} {gate : Int} (h : aspOk x = false) : goneF x gate = emptyBook ∧ riseSays x gate = [] := by simp [goneF, riseSays, h]
theorem gone_none {x : DAspBook} {gate : Int} (h : aspOk x = true) (h2 : atG x.xGates gate = none) : goneF x gate = x ∧ riseSays x gate = [] := by simp [goneF, riseSays, goneB, h, h2]
theorem gone_at {x : DAspBook} {gate : Int} {k : Nat} (h : aspOk x = true) (h2 : atG x.xGates gate = some k) : goneF x gate = { x with xGates := x.xGates.set k (zeroG gate) } ∧ riseSays x gate = [upWord] := by simp [goneF, riseSays, goneB, h, h2]
theorem sz_set (gs : List DAspGate) (k : Nat) (gate : Int) : szL zAspGate (gs.set k (zeroG gate)) ≤ szL zAspGate gs := by
  induction gs generalizing k with
  | nil => simp
  | cons g gs ih =>
    cases k with
    | zero => simp [szL, zeroG, zAspGate]
    | succ k => have := ih k; simp only [List.set_cons_succ, szL]; omega
theorem gone_z (x : DAspBook) (gate : Int) (h : zAspBook x ≤ 1048576) : zAspBook (goneF x gate) ≤ 1048576 := by
  unfold goneF goneB
  split
  · rcases hat : atG x.xGates gate with _ | k
    · exact h
    · have h1 := sz_set x.xGates k gate
      simp only [zAspBook, zL, List.length_set] at h ⊢
      omega
  · decide
theorem aspGone_bd (gate : Int) (x : DAspBook) (h : zAspBook x ≤ 1048576) : zAspBook (goneF x gate) ≤ 1048576 := gone_z x gate h
theorem rise_z (x : DAspBook) (gate : Int) : zL zMsgWord (riseSays x gate) ≤ 1 := by
  unfold riseSays; split <;> decide
theorem aspRise_bd (gate : Int) (x : DAspBook) (h : zAspBook x ≤ 1048576) : zAspBook (goneF x gate) ≤ 1048576 ∧ zL zMsgWord (riseSays x gate) ≤ 1048576 := ⟨gone_z x gate h, Nat.le_trans (rise_z x gate) (by decide)⟩

def GonePost (w : World) (x : DAspBook) (gate : Int) (e : Ending) (w' : World) : Prop := ∃ cs' f, e = .returned (.agg cs'.toArray) ∧ EAspBook w' f cs' (goneF x gate) ∧ Nw w.heap.size w'.heap.size f ∧ Below w.heap.size w w'
def RisePost (w : World) (x : DAspBook) (gate : Int) (e : Ending) (w' : World) : Prop := ∃ cs' v' f1 f2, e = .returned (.tuple #[.agg cs'.toArray, v']) ∧ EAspBook w' f1 cs' (goneF x gate) ∧ OwMsgWordS w' f2 v' (riseSays x gate) ∧ Nw w.heap.size w'.heap.size (f1 ++ f2) ∧ Below w.heap.size w w'
theorem upWord_e (w : World) : EMsgWord w [] [.int .i64 1, .int .i64 0, .int .i64 0, .int .i64 0, .int .i64 0, .slice none 0 0] upWord := ⟨_, [], rfl, ⟨⟨by simp [upWord], .inl ⟨rfl, rfl⟩⟩, rfl⟩, rfl⟩
end Go.Proofs.Ythdjjgbjemaabaa
