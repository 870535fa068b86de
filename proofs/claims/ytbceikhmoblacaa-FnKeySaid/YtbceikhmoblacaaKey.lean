/-
  KeyTurn and KeyStream of the program and of the model: each answers as one function of integers.
-/
import Derived.Test.YtbceikhmoblacaaSer
import Derived.Lib.Hide
namespace Go.Proofs.Ytbceikhmoblacaa
open Go.ChangeShapes Go.WideShapes Go.ChangeAt Go.RowKit
set_option linter.unusedVariables false

/-- The place of one of n for a choice. -/
def turnF (s n : Int) : Int := if n < 1 then 0 else if s.tmod n < 0 then s.tmod n + n else s.tmod n
theorem tmod_bd (s n : Int) (hn : 1 ≤ n) : -n < s.tmod n ∧ s.tmod n < n := by
  have h1 := Int.tmod_lt_of_pos s (show 0 < n by omega)
  have h2 := Int.lt_tmod_of_pos s (show 0 < n by omega)
  omega
theorem turn_bd (s n : Int) (hn : 1 ≤ n) : 0 ≤ turnF s n ∧ turnF s n < n := by
  have h := tmod_bd s n hn
  unfold turnF
  rw [if_neg (by omega)]
  split <;> omega

set_option maxHeartbeats 400000 in
theorem specTurn_any (s n : Int) (w : World) (hn : n ≤ 9223372036854775807) : Calls Try.prog 33 #[.int .i64 s, .int .i64 n] w fun e w' => e = .returned (.int .i64 (turnF s n)) ∧ w = w' := by
  by_cases h : n < 1
  · have hr : turnF s n = 0 := by simp [turnF, h]
    rw [hr]; clear hr
    go_enter Try.func33, Try.ntmps33
    go_wp2
    go_ret
    exact ⟨rfl, rfl⟩
  · have hb := tmod_bd s n (by omega)
    have hr : turnF s n = if s.tmod n < 0 then s.tmod n + n else s.tmod n := by simp [turnF, h]
    have Hr := Lib.hid hr
    clear hr
    have hn0 : n ≠ 0 := by omega
    go_enter Try.func33, Try.ntmps33
    go_wp2
    all_goals
      go_ret
      refine ⟨ret_int ?_, rfl⟩
      rw [Hr.out]
      first | rw [if_pos (by assumption)] | rw [if_neg (by omega)]

set_option maxHeartbeats 400000 in
theorem implTurn_any (s n : Int) (w : World) (hn : n ≤ 9223372036854775807) : Calls Try.prog 31 #[.int .i64 s, .int .i64 n] w fun e w' => e = .returned (.int .i64 (turnF s n)) ∧ w = w' := by
  by_cases h : n < 1
  · have hr : turnF s n = 0 := by simp [turnF, h]
    rw [hr]; clear hr
    go_enter Try.func31, Try.ntmps31
    go_wp2
    go_ret
    exact ⟨rfl, rfl⟩
  · have hb := tmod_bd s n (by omega)
    have hr : turnF s n = if s.tmod n < 0 then s.tmod n + n else s.tmod n := by simp [turnF, h]
    have Hr := Lib.hid hr
    clear hr
    have hn0 : n ≠ 0 := by omega
    go_enter Try.func31, Try.ntmps31
    go_wp2
    all_goals
      go_ret
      refine ⟨ret_int ?_, rfl⟩
      rw [Hr.out]
      first | rw [if_pos (by assumption)] | rw [if_neg (by omega)]

/-- The stream for a choice. -/
def streamF (s n : Int) : Int := if n < 2 then 0 else 1 + turnF s (n - 1)

set_option maxHeartbeats 400000 in
theorem specStream_any (s n : Int) (w : World) (hn : -9223372036854775808 ≤ n ∧ n ≤ 9223372036854775807) : Calls Try.prog 32 #[.int .i64 s, .int .i64 n] w fun e w' => e = .returned (.int .i64 (streamF s n)) ∧ w = w' := by
  by_cases h : n < 2
  · have hr : streamF s n = 0 := by simp [streamF, h]
    rw [hr]; clear hr
    go_enter Try.func32, Try.ntmps32
    go_wp2
    go_ret
    exact ⟨rfl, rfl⟩
  · have hr : streamF s n = 1 + turnF s (n - 1) := by simp [streamF, h]
    rw [hr]; clear hr
    have hb := turn_bd s (n - 1) (by omega)
    go_enter Try.func32, Try.ntmps32
    go_wp2_with (go_at_call 33; refine (specTurn_any _ _ _ (by omega)).mono ?_; rintro e w' ⟨rfl, rfl⟩)
    go_ret
    exact ⟨ret_int (by omega), rfl⟩

set_option maxHeartbeats 400000 in
theorem implStream_any (s n : Int) (w : World) (hn : -9223372036854775808 ≤ n ∧ n ≤ 9223372036854775807) : Calls Try.prog 30 #[.int .i64 s, .int .i64 n] w fun e w' => e = .returned (.int .i64 (streamF s n)) ∧ w = w' := by
  by_cases h : n < 2
  · have hr : streamF s n = 0 := by simp [streamF, h]
    rw [hr]; clear hr
    go_enter Try.func30, Try.ntmps30
    go_wp2
    go_ret
    exact ⟨rfl, rfl⟩
  · have hr : streamF s n = 1 + turnF s (n - 1) := by simp [streamF, h]
    rw [hr]; clear hr
    have hb := turn_bd s (n - 1) (by omega)
    go_enter Try.func30, Try.ntmps30
    go_wp2_with (go_at_call 31; refine (implTurn_any _ _ _ (by omega)).mono ?_; rintro e w' ⟨rfl, rfl⟩)
    go_ret
    exact ⟨ret_int (by omega), rfl⟩
end Go.Proofs.Ytbceikhmoblacaa
