/-
  The contracts of ways (chapter 7): of the program and of the model; each answers at every argument as one function of integers.
-/
import Derived.Test.YthdjjgbjemaabaaSer
import Derived.Below
import Derived.Lib.Hide
import Derived.Deep.RegionHeld3
import Derived.Deep.QuietTactic
import Derived.BigQuiet
namespace Go.Proofs.Ythdjjgbjemaabaa
open Go.ChangeShapes Go.WideShapes Go.ChangeAt Go.RowKit
set_option linter.unusedVariables false

set_option maxHeartbeats 400000 in
theorem l4Short_any (n : Int) (w : World) : Calls Try.prog 107 #[.int .i64 n] w fun e w' => e = .returned (.bool (inB n 0 65535)) ∧ w = w' := by
  go_enter Try.func107, Try.ntmps107
  go_wp2_with (go_at_call 108; refine (l1In_any _ _ _ _).mono ?_; rintro e w' ⟨rfl, rfl⟩)
  go_ret
  exact ⟨rfl, rfl⟩
set_option maxHeartbeats 400000 in
theorem l4Long_any (n : Int) (w : World) : Calls Try.prog 145 #[.int .i64 n] w fun e w' => e = .returned (.bool (inB n 0 4294967295)) ∧ w = w' := by
  go_enter Try.func145, Try.ntmps145
  go_wp2_with (go_at_call 108; refine (l1In_any _ _ _ _).mono ?_; rintro e w' ⟨rfl, rfl⟩)
  go_ret
  exact ⟨rfl, rfl⟩
set_option maxHeartbeats 400000 in
theorem frmIn_any (n lo hi : Int) (w : World) : Calls Try.prog 104 #[.int .i64 n, .int .i64 lo, .int .i64 hi] w fun e w' => e = .returned (.bool (inB n lo hi)) ∧ w = w' := by
  by_cases h : lo ≤ n <;> by_cases h2 : n ≤ hi
  all_goals
    go_enter Try.func104, Try.ntmps104
    go_wp2
    go_ret
    exact ⟨by simp [inB, h, h2], rfl⟩
set_option maxHeartbeats 400000 in
theorem frmShort_any (n : Int) (w : World) : Calls Try.prog 103 #[.int .i64 n] w fun e w' => e = .returned (.bool (inB n 0 65535)) ∧ w = w' := by
  go_enter Try.func103, Try.ntmps103
  go_wp2_with (go_at_call 104; refine (frmIn_any _ _ _ _).mono ?_; rintro e w' ⟨rfl, rfl⟩)
  go_ret
  exact ⟨rfl, rfl⟩
set_option maxHeartbeats 400000 in
theorem frmLong_any (n : Int) (w : World) : Calls Try.prog 151 #[.int .i64 n] w fun e w' => e = .returned (.bool (inB n 0 4294967295)) ∧ w = w' := by
  go_enter Try.func151, Try.ntmps151
  go_wp2_with (go_at_call 104; refine (frmIn_any _ _ _ _).mono ?_; rintro e w' ⟨rfl, rfl⟩)
  go_ret
  exact ⟨rfl, rfl⟩

/-- A way, as a value. -/
def wayV (a : Int) (on : Bool) (er sr va ro : Int) : Value := .agg #[.int .i64 a, .bool on, .int .i64 er, .int .i64 sr, .int .i64 va, .int .i64 ro]
/-- Is a way ok? -/
def okW (a : Int) (on : Bool) (er sr va ro : Int) : Bool := inB a 0 65535 && (inB er 0 3 && ((on == decide (er ≤ 2)) && (inB sr 0 128 && (inB va 0 64 && inB ro 2 16))))
theorem okW_iff {a : Int} {on : Bool} {er sr va ro : Int} : okW a on er sr va ro = true ↔ (0 ≤ a ∧ a ≤ 65535) ∧ (0 ≤ er ∧ er ≤ 3) ∧ (on = decide (er ≤ 2)) ∧ (0 ≤ sr ∧ sr ≤ 128) ∧ (0 ≤ va ∧ va ≤ 64) ∧ (2 ≤ ro ∧ ro ≤ 16) := by
  simp only [okW, Bool.and_eq_true, inB_iff, beq_iff_eq]

set_option maxHeartbeats 400000 in
theorem specPthOk_any (a : Int) (on : Bool) (er sr va ro : Int) (w : World) : Calls Try.prog 21 #[.agg #[.int .i64 a, .bool on, .int .i64 er, .int .i64 sr, .int .i64 va, .int .i64 ro]] w fun e w' => e = .returned (.bool (okW a on er sr va ro)) ∧ Below w.heap.size w w' := by
  go_enter Try.func21, Try.ntmps21
  go_wp2_with (first | (go_at_call 107; refine (l4Short_any _ _).mono ?_; rintro e w' ⟨rfl, rfl⟩) | (go_at_call 108; refine (l1In_any _ _ _ _).mono ?_; rintro e w' ⟨rfl, rfl⟩))
  all_goals
    go_ret
    refine ⟨ret_bool ?_, ?_⟩
    · simp [okW, *]
    repeat first | with_reducible exact Below.refl _ _ | with_reducible assumption | with_reducible refine Below.setCell ?_ (by simp <;> omega) _ | with_reducible refine Below.alloc ?_ (by simp <;> omega) _ | with_reducible refine Below.drew ?_

set_option maxHeartbeats 400000 in
theorem pthOf_any (a : Int) (on : Bool) (er sr va ro : Int) (w : World) : Calls Try.prog 97 #[.agg #[.int .i64 a, .bool on, .int .i64 er, .int .i64 sr, .int .i64 va, .int .i64 ro]] w fun e w' => e = .returned (.agg #[.int .i64 sr, .int .i64 va, .int .i64 ro, .int .i64 a, .int .i64 er]) ∧ Below w.heap.size w w' := by
  go_enter Try.func97, Try.ntmps97
  go_wp2
  refine bodyPost_ret (v := .agg #[.int .i64 sr, .int .i64 va, .int .i64 ro, .int .i64 a, .int .i64 er]) (by simp [results, Try.results97, go_sem]) rfl ⟨rfl, ?_⟩
  repeat first | with_reducible exact Below.refl _ _ | with_reducible assumption | with_reducible refine Below.setCell ?_ (by simp <;> omega) _ | with_reducible refine Below.alloc ?_ (by simp <;> omega) _ | with_reducible refine Below.drew ?_

set_option maxHeartbeats 400000 in
theorem pthOn_any (sr va ro a er : Int) (w : World) : Calls Try.prog 105 #[.agg #[.int .i64 sr, .int .i64 va, .int .i64 ro, .int .i64 a, .int .i64 er]] w fun e w' => e = .returned (.bool (decide (er ≤ 2))) ∧ Below w.heap.size w w' := by
  go_enter Try.func105, Try.ntmps105
  go_wp2
  go_ret
  refine ⟨rfl, ?_⟩
  repeat first | with_reducible exact Below.refl _ _ | with_reducible assumption | with_reducible refine Below.setCell ?_ (by simp <;> omega) _ | with_reducible refine Below.alloc ?_ (by simp <;> omega) _ | with_reducible refine Below.drew ?_

set_option maxHeartbeats 400000 in
theorem pthFits_any (sr va ro : Int) (w : World) : Calls Try.prog 106 #[.agg #[.int .i64 sr, .int .i64 va, .int .i64 ro]] w fun e w' => e = .returned (.bool (inB sr 0 128 && (inB va 0 64 && inB ro 2 16))) ∧ Below w.heap.size w w' := by
  go_enter Try.func106, Try.ntmps106
  go_wp2_with (go_at_call 104; refine (frmIn_any _ _ _ _).mono ?_; rintro e w' ⟨rfl, rfl⟩)
  all_goals
    go_ret
    refine ⟨ret_bool ?_, ?_⟩
    · simp [*]
    repeat first | with_reducible exact Below.refl _ _ | with_reducible assumption | with_reducible refine Below.setCell ?_ (by simp <;> omega) _ | with_reducible refine Below.alloc ?_ (by simp <;> omega) _ | with_reducible refine Below.drew ?_

theorem below_dN {B : Nat} {a w : World} (h : Below B a w) (n : Nat) : Below B a (w.drewN n) := ⟨h.os, h.tape, h.output, h.size, h.block⟩
theorem frmShort_q (n : Int) (x : Bool) (h : inB n 0 65535 = x) (w : World) (m : Nat) : Calls Try.prog 103 #[.int .i64 n] (w.drewN m) fun e w'' => e = .returned (.bool x) ∧ ∃ k, w'' = w.drewN k :=
  (frmShort_any n _).mono fun e w' hw => ⟨by rw [hw.1, h], m, hw.2.symm⟩
theorem frmIn_q (n lo hi : Int) (x : Bool) (h : inB n lo hi = x) (w : World) (m : Nat) : Calls Try.prog 104 #[.int .i64 n, .int .i64 lo, .int .i64 hi] (w.drewN m) fun e w'' => e = .returned (.bool x) ∧ ∃ k, w'' = w.drewN k :=
  (frmIn_any n lo hi _).mono fun e w' hw => ⟨by rw [hw.1, h], m, hw.2.symm⟩
theorem keepPth {w0 : World} {b0 b1 : Nat} {a : Int} {on : Bool} {er sr va ro : Int} {w w' : World} (h : (w.cell? ⟨b0, 1, none⟩ = some (.bool on) ∧ w.cell? ⟨b1, 0, none⟩ = some (.int .i64 sr) ∧ w.cell? ⟨b1, 1, none⟩ = some (.int .i64 va) ∧ w.cell? ⟨b1, 2, none⟩ = some (.int .i64 ro) ∧ w.cell? ⟨b1, 3, none⟩ = some (.int .i64 a) ∧ w.cell? ⟨b1, 4, none⟩ = some (.int .i64 er) ∧ Below w0.heap.size w0 w)) (hb : Below w.heap.size w w') : (w'.cell? ⟨b0, 1, none⟩ = some (.bool on) ∧ w'.cell? ⟨b1, 0, none⟩ = some (.int .i64 sr) ∧ w'.cell? ⟨b1, 1, none⟩ = some (.int .i64 va) ∧ w'.cell? ⟨b1, 2, none⟩ = some (.int .i64 ro) ∧ w'.cell? ⟨b1, 3, none⟩ = some (.int .i64 a) ∧ w'.cell? ⟨b1, 4, none⟩ = some (.int .i64 er) ∧ Below w0.heap.size w0 w') := by
  obtain ⟨h1, h2, h3, h4, h5, h6, h7⟩ := h
  have k : ∀ b o v, w.cell? ⟨b, o, none⟩ = some v → w'.cell? ⟨b, o, none⟩ = some v := fun b o v hv => (hb.cell (p := ⟨b, o, none⟩) (World.block_lt_of_cell? w _ hv)).trans hv
  exact ⟨k _ _ _ h1, k _ _ _ h2, k _ _ _ h3, k _ _ _ h4, k _ _ _ h5, k _ _ _ h6, h7.trans (hb.mono h7.size)⟩
set_option maxHeartbeats 1000000 in
theorem implPthOk_any (a : Int) (on : Bool) (er sr va ro : Int) (w : World) : Calls Try.prog 20 #[.agg #[.int .i64 a, .bool on, .int .i64 er, .int .i64 sr, .int .i64 va, .int .i64 ro]] w fun e w' => e = .returned (.bool (okW a on er sr va ro)) ∧ Below w.heap.size w w' := by
  go_enter Try.func20, Try.ntmps20
  go_wp2_with fail
  refine (pthOf_any _ _ _ _ _ _ _).mono ?_
  rintro e w1 ⟨rfl, b1⟩
  have hc := b1.cell (p := ⟨w.heap.size, 1, none⟩) (by simp)
  have hz := b1.size
  simp only [World.size_alloc] at hz
  simp at hc
  have B1 := Lib.hid b1
  clear b1
  go_wp2_with fail
  generalize hw2 : World.alloc w1 _ = w2
  have S0 : w2.cell? ⟨w.heap.size, 1, none⟩ = some (.bool on) ∧ w2.cell? ⟨w1.heap.size, 0, none⟩ = some (.int .i64 sr) ∧ w2.cell? ⟨w1.heap.size, 1, none⟩ = some (.int .i64 va) ∧ w2.cell? ⟨w1.heap.size, 2, none⟩ = some (.int .i64 ro) ∧ w2.cell? ⟨w1.heap.size, 3, none⟩ = some (.int .i64 a) ∧ w2.cell? ⟨w1.heap.size, 4, none⟩ = some (.int .i64 er) ∧ Below w.heap.size w w2 := by
    subst hw2
    refine ⟨?_, ?_, ?_, ?_, ?_, ?_, ?_⟩
    · rw [Below.cell (B := w1.heap.size) ((Below.refl _ _).alloc (Nat.le_refl _) _) (p := ⟨w.heap.size, 1, none⟩) (by show w.heap.size < _; omega)]
      exact hc
    · go_simp
    · go_simp
    · go_simp
    · go_simp
    · go_simp
    · exact (((Below.refl _ _).alloc (Nat.le_refl _) _).trans (B1.out.mono (by simp))).alloc (by omega) _
  clear hw2 hc hz B1
  rcases h1 : inB a 0 65535 with _ | _
  · go_split_ands
    go_quiet (first | (go_at_call 103; exact frmShort_q _ _ h1 _ _))
    go_wp2
    go_ret
    exact ⟨ret_bool (by simp [okW, h1]), below_dN (by assumption) _⟩
  rcases h2 : inB er 0 3 with _ | _
  · go_split_ands
    go_quiet (first | (go_at_call 103; exact frmShort_q _ _ h1 _ _) | (go_at_call 104; exact frmIn_q _ _ _ _ h2 _ _))
    go_wp2
    go_ret
    exact ⟨ret_bool (by simp [okW, h1, h2]), below_dN (by assumption) _⟩
  rcases h3 : (on == decide (er ≤ 2)) with _ | _
  · obtain ⟨s1, s2, s3, s4, s5, s6, s7⟩ := S0
    have H7 := Lib.hid s7
    clear s7
    first | (go_region_with (first | (go_at_call 103; refine (frmShort_any _ _).mono ?_; rintro e w' ⟨rfl, rfl⟩) | (go_at_call 104; refine (frmIn_any _ _ _ _).mono ?_; rintro e w' ⟨rfl, rfl⟩) | (go_at_call 105; refine (pthOn_any _ _ _ _ _ _).mono ?_; rintro e w' ⟨rfl, hb⟩; have c1 := (hb.cell (p := ⟨w.heap.size, 1, none⟩) (World.block_lt_of_cell? w2 _ s1)).trans s1; have H8 := Lib.hid (H7.out.trans ((show Below w2.heap.size w2 w' from ⟨hb.os, hb.tape, hb.output, hb.size, hb.block⟩).mono H7.out.size)); clear hb))) | fail
    all_goals
      go_wp2
      go_ret
      exact ⟨ret_bool (by simp [okW, h1, h2, h3]), H8.out⟩
  · go_region_held3 (fun x => x.cell? ⟨w.heap.size, 1, none⟩ = some (.bool on) ∧ x.cell? ⟨w1.heap.size, 0, none⟩ = some (.int .i64 sr) ∧ x.cell? ⟨w1.heap.size, 1, none⟩ = some (.int .i64 va) ∧ x.cell? ⟨w1.heap.size, 2, none⟩ = some (.int .i64 ro) ∧ x.cell? ⟨w1.heap.size, 3, none⟩ = some (.int .i64 a) ∧ x.cell? ⟨w1.heap.size, 4, none⟩ = some (.int .i64 er) ∧ Below w.heap.size w x) (first | assumption | exact S0 | exact ⟨S0.1, S0.2.1, S0.2.2.1, S0.2.2.2.1, S0.2.2.2.2.1, S0.2.2.2.2.2.1, S0.2.2.2.2.2.2.drew⟩ | (refine keepPth ?_ hb; assumption)) (first | (go_at_call 103; refine (frmShort_any _ _).mono ?_; rintro e w' ⟨rfl, rfl⟩) | (go_at_call 104; refine (frmIn_any _ _ _ _).mono ?_; rintro e w' ⟨rfl, rfl⟩) | (go_at_call 105; refine (pthOn_any _ _ _ _ _ _).mono ?_; rintro e w' ⟨rfl, hb⟩) | (go_at_call 106; refine (pthFits_any _ _ _ _).mono ?_; rintro e w' ⟨rfl, hb⟩))
    go_wp2
    go_ret
    exact ⟨ret_bool (by simp [okW, h1, h2, h3]), by go_split_ands; assumption⟩
end Go.Proofs.Ythdjjgbjemaabaa
