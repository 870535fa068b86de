/-
  The contracts of SerAdd, SerGap and SerLess, of the program and of the model, and of what they call: each answers at every argument as one function of integers.
-/
import Derived.Test.YthdjjgbjemaabaaRows
import Derived.WalkKit
import Derived.ProofKit
import Derived.OpenShut
import Derived.IntWalk
namespace Go.Proofs.Ythdjjgbjemaabaa
open Go.ChangeShapes Go.WideShapes Go.ChangeAt Go.RowKit
set_option linter.unusedVariables false

/-- How many numbers of so many bits there are. -/
def topOf (bits : Int) : Int := if bits = 16 then 65536 else if bits = 32 then 4294967296 else 0
/-- Is n one of the numbers of so many bits? -/
def isB (n bits : Int) : Bool := decide (0 ≤ n) && decide (n < topOf bits)
theorem isB_iff {n bits : Int} : isB n bits = true ↔ 0 ≤ n ∧ n < topOf bits := by simp [isB]
theorem isB_not {n bits : Int} : isB n bits = false ↔ (n < 0 ∨ topOf bits ≤ n) := by
  have := @isB_iff n bits
  cases h : isB n bits <;> simp [h] at this ⊢ <;> omega
theorem ret_int {k : IntKind} {a b : Int} (h : a = b) : Ending.returned (.int k a) = .returned (.int k b) := by rw [h]
theorem ret_bool {a b : Bool} (h : a = b) : Ending.returned (.bool a) = .returned (.bool b) := by rw [h]
theorem topOf16 : topOf 16 = 65536 := rfl
theorem topOf32 : topOf 32 = 4294967296 := rfl
theorem topOf_other {b : Int} (h : b ≠ 16) (h2 : b ≠ 32) : topOf b = 0 := by simp [topOf, h, h2]
theorem topOf_cases (b : Int) : (b = 16 ∧ topOf b = 65536) ∨ (b = 32 ∧ topOf b = 4294967296) ∨ (b ≠ 16 ∧ b ≠ 32 ∧ topOf b = 0) := by
  by_cases h : b = 16
  · left; exact ⟨h, by rw [h]; rfl⟩
  · by_cases h2 : b = 32
    · right; left; exact ⟨h2, by rw [h2]; rfl⟩
    · right; right; exact ⟨h, h2, topOf_other h h2⟩
theorem w64_in {n : Int} (h : -9223372036854775808 ≤ n ∧ n ≤ 9223372036854775807) : wrap64 n = n := by unfold wrap64; omega
theorem u16_mod (n : Int) : IntKind.u16.wrap n = n % 65536 := by simp [IntKind.wrap, IntKind.bits, IntKind.signed]
theorem u32_mod (n : Int) : IntKind.u32.wrap n = n % 4294967296 := by simp [IntKind.wrap, IntKind.bits, IntKind.signed]

set_option maxHeartbeats 400000 in
theorem l1Size_any (b : Int) (w : World) : Calls Try.prog 268 #[.int .i64 b] w fun e w' => e = .returned (.int .i64 (topOf b)) ∧ w = w' := by
  by_cases h : b = 16
  · subst h
    go_enter Try.func268, Try.ntmps268
    go_wp2
    go_ret
    exact ⟨rfl, rfl⟩
  · by_cases h2 : b = 32
    · subst h2
      go_enter Try.func268, Try.ntmps268
      go_wp2
      go_ret
      exact ⟨rfl, rfl⟩
    · go_enter Try.func268, Try.ntmps268
      go_wp2
      go_ret
      exact ⟨by simp [topOf, h, h2], rfl⟩

/-- Is n in lo..hi? -/
def inB (n lo hi : Int) : Bool := decide (lo ≤ n) && decide (n ≤ hi)
theorem inB_iff {n lo hi : Int} : inB n lo hi = true ↔ lo ≤ n ∧ n ≤ hi := by simp [inB]
theorem inB_not {n lo hi : Int} : inB n lo hi = false ↔ (n < lo ∨ hi < n) := by
  have := @inB_iff n lo hi
  cases h : inB n lo hi <;> simp [h] at this ⊢ <;> omega
set_option maxHeartbeats 400000 in
theorem l1In_any (n lo hi : Int) (w : World) : Calls Try.prog 108 #[.int .i64 n, .int .i64 lo, .int .i64 hi] w fun e w' => e = .returned (.bool (inB n lo hi)) ∧ w = w' := by
  by_cases h : lo ≤ n <;> by_cases h2 : n ≤ hi
  all_goals
    go_enter Try.func108, Try.ntmps108
    go_wp2
    go_ret
    exact ⟨by simp [inB, h, h2], rfl⟩
theorem inB16 {n : Int} {x : Bool} (h : isB n 16 = x) : inB n 0 65535 = x := by
  rcases x with _ | _
  · rw [inB_not]; rw [isB_not, topOf16] at h; omega
  · rw [inB_iff]; rw [isB_iff, topOf16] at h; omega
theorem inB32 {n : Int} {x : Bool} (h : isB n 32 = x) : inB n 0 4294967295 = x := by
  rcases x with _ | _
  · rw [inB_not]; rw [isB_not, topOf32] at h; omega
  · rw [inB_iff]; rw [isB_iff, topOf32] at h; omega

set_option maxHeartbeats 400000 in
theorem serIs_any (n b : Int) (w : World) : Calls Try.prog 309 #[.int .i64 n, .int .i64 b] w fun e w' => e = .returned (.bool (isB n b)) ∧ w = w' := by
  by_cases h : b = 16
  · subst h
    go_enter Try.func309, Try.ntmps309
    go_wp2
    go_ret
    refine ⟨ret_bool ?_, rfl⟩
    rw [u16_mod, w64_in (by omega), isB, topOf16]
    rw [Bool.eq_iff_iff]; simp; omega
  · by_cases h2 : b = 32
    · subst h2
      go_enter Try.func309, Try.ntmps309
      go_wp2
      go_ret
      refine ⟨ret_bool ?_, rfl⟩
      rw [isB, topOf32]
      rw [Bool.eq_iff_iff]; simp; omega
    · have ht := topOf_other h h2
      have hf : isB n b = false := by rw [isB_not, ht]; omega
      rw [hf]; clear hf ht
      go_enter Try.func309, Try.ntmps309
      go_wp2
      go_ret
      exact ⟨rfl, rfl⟩
theorem serIs_eq (n b : Int) (w : World) (x : Bool) (hx : isB n b = x) : Calls Try.prog 309 #[.int .i64 n, .int .i64 b] w fun e w' => e = .returned (.bool x) ∧ w = w' := by
  subst hx; exact serIs_any n b w

/-- SerAdd. -/
def addF (a n b : Int) : Int := if isB a b = true then (a + n) % topOf b else 0
set_option maxHeartbeats 400000 in
theorem implAdd_any (a n b : Int) (w : World) : Calls Try.prog 249 #[.int .i64 a, .int .i64 n, .int .i64 b] w fun e w' => e = .returned (.int .i64 (addF a n b)) ∧ w = w' := by
  rcases hx : isB a b with _ | _
  · have hr : addF a n b = 0 := by simp [addF, hx]
    rw [hr]; clear hr
    go_enter Try.func249, Try.ntmps249
    go_wp2_with (go_at_call 309; refine (serIs_eq _ _ _ _ hx).mono ?_; rintro e w' ⟨rfl, rfl⟩)
    go_ret
    exact ⟨rfl, rfl⟩
  · have hr : addF a n b = (a + n) % topOf b := by simp [addF, hx]
    rw [hr]; clear hr
    rcases topOf_cases b with ⟨rfl, ht⟩ | ⟨rfl, ht⟩ | ⟨h1, h2, ht⟩
    · clear ht
      go_enter Try.func249, Try.ntmps249
      go_wp2_with (go_at_call 309; refine (serIs_eq _ _ _ _ hx).mono ?_; rintro e w' ⟨rfl, rfl⟩)
      go_ret
      refine ⟨ret_int ?_, rfl⟩
      rw [topOf16, u16_mod, u16_mod, u16_mod, w64_in (by omega)]; omega
    · clear ht
      go_enter Try.func249, Try.ntmps249
      go_wp2_with (go_at_call 309; refine (serIs_eq _ _ _ _ hx).mono ?_; rintro e w' ⟨rfl, rfl⟩)
      go_ret
      exact ⟨ret_int (by rw [topOf32]), rfl⟩
    · rw [isB_iff, ht] at hx; omega

theorem add_math (a n t : Int) (ht : 0 < t) (h0 : 0 ≤ a) (h1 : a < t) : (a + n.tmod t + t).tmod t = (a + n) % t := by
  have h2 := Int.tmod_lt_of_pos n ht
  have h3 : -t < n.tmod t := by
    have := Int.neg_tmod (a := n) (b := t)
    have := Int.tmod_lt_of_pos (-n) ht
    omega
  rw [Int.tmod_eq_emod_of_nonneg (by omega)]
  rw [Int.add_emod_right]
  have h4 : n.tmod t = n - t * (n.tdiv t) := by have := Int.tmod_def n t; omega
  rw [h4, show a + (n - t * n.tdiv t) = (a + n) + t * (- n.tdiv t) by rw [Int.mul_neg]; omega, Int.add_mul_emod_self_left]

theorem add_wrap (a n b t : Int) (hb : topOf b = t) (ht : 0 < t ∧ t ≤ 4294967296) (h : 0 ≤ a ∧ a < topOf b) : (wrap64 (wrap64 (a + n.tmod t) + t)).tmod t = (a + n) % topOf b := by
  subst hb
  have h2 := Int.tmod_lt_of_pos n ht.1
  have h3 : -topOf b < n.tmod (topOf b) := by
    have := Int.neg_tmod (a := n) (b := topOf b)
    have := Int.tmod_lt_of_pos (-n) ht.1
    omega
  rw [w64_in (n := a + n.tmod (topOf b)) (by omega), w64_in (by omega)]
  exact add_math a n _ ht.1 h.1 h.2

set_option maxHeartbeats 400000 in
theorem specAdd_any (a n b : Int) (w : World) : Calls Try.prog 248 #[.int .i64 a, .int .i64 n, .int .i64 b] w fun e w' => e = .returned (.int .i64 (addF a n b)) ∧ w = w' := by
  rcases hx : isB a b with _ | _
  · have hr : addF a n b = 0 := by simp [addF, hx]
    rw [hr]; clear hr
    rcases topOf_cases b with ⟨rfl, ht⟩ | ⟨rfl, ht⟩ | ⟨h1, h2, ht⟩
    · have hi := inB16 hx
      go_enter Try.func248, Try.ntmps248
      go_wp2_with (first | (go_at_call 268; refine (l1Size_any _ _).mono ?_; rintro e w' ⟨rfl, rfl⟩) | (go_at_call 108; refine (l1In_any _ _ _ _).mono ?_; rintro e w' ⟨rfl, rfl⟩))
      go_ret
      exact ⟨rfl, rfl⟩
    · have hi := inB32 hx
      go_enter Try.func248, Try.ntmps248
      go_wp2_with (first | (go_at_call 268; refine (l1Size_any _ _).mono ?_; rintro e w' ⟨rfl, rfl⟩) | (go_at_call 108; refine (l1In_any _ _ _ _).mono ?_; rintro e w' ⟨rfl, rfl⟩))
      go_ret
      exact ⟨rfl, rfl⟩
    · go_enter Try.func248, Try.ntmps248
      go_wp2_with (first | (go_at_call 268; refine (l1Size_any _ _).mono ?_; rintro e w' ⟨rfl, rfl⟩))
      go_ret
      exact ⟨rfl, rfl⟩
  · have hr : addF a n b = (a + n) % topOf b := by simp [addF, hx]
    rw [hr]; clear hr
    have hb := isB_iff.1 hx
    rcases topOf_cases b with ⟨rfl, ht⟩ | ⟨rfl, ht⟩ | ⟨h1, h2, ht⟩
    · have hi := inB16 hx
      go_enter Try.func248, Try.ntmps248
      go_wp2_with (first | (go_at_call 268; refine (l1Size_any _ _).mono ?_; rintro e w' ⟨rfl, rfl⟩) | (go_at_call 108; refine (l1In_any _ _ _ _).mono ?_; rintro e w' ⟨rfl, rfl⟩))
      go_ret
      exact ⟨ret_int (add_wrap a n _ _ ht (by omega) hb), rfl⟩
    · have hi := inB32 hx
      go_enter Try.func248, Try.ntmps248
      go_wp2_with (first | (go_at_call 268; refine (l1Size_any _ _).mono ?_; rintro e w' ⟨rfl, rfl⟩) | (go_at_call 108; refine (l1In_any _ _ _ _).mono ?_; rintro e w' ⟨rfl, rfl⟩))
      go_ret
      exact ⟨ret_int (add_wrap a n _ _ ht (by omega) hb), rfl⟩
    · rw [ht] at hb; omega

/-- SerGap. -/
def gapF (a c b : Int) : Int := if isB a b = true ∧ isB c b = true then (c - a) % topOf b else 0
theorem gapF_yes {a c b : Int} (h : isB a b = true) (h2 : isB c b = true) : gapF a c b = (c - a) % topOf b := by simp [gapF, h, h2]
theorem gapF_no1 {a c b : Int} (h : isB a b = false) : gapF a c b = 0 := by simp [gapF, h]
theorem gapF_no2 {a c b : Int} (h : isB c b = false) : gapF a c b = 0 := by simp [gapF, h]
set_option maxHeartbeats 400000 in
theorem implGap_any (a c b : Int) (w : World) : Calls Try.prog 318 #[.int .i64 a, .int .i64 c, .int .i64 b] w fun e w' => e = .returned (.int .i64 (gapF a c b)) ∧ w = w' := by
  rcases hx : isB a b with _ | _
  · rw [gapF_no1 hx]
    go_enter Try.func318, Try.ntmps318
    go_wp2_with (go_at_call 309; refine (serIs_eq _ _ _ _ hx).mono ?_; rintro e w' ⟨rfl, rfl⟩)
    go_ret
    exact ⟨rfl, rfl⟩
  · rcases hy : isB c b with _ | _
    · rw [gapF_no2 hy]
      go_enter Try.func318, Try.ntmps318
      go_wp2_with (go_at_call 309; first | ((with_reducible refine (serIs_eq _ _ _ _ hx).mono ?_); rintro e w' ⟨rfl, rfl⟩) | ((with_reducible refine (serIs_eq _ _ _ _ hy).mono ?_); rintro e w' ⟨rfl, rfl⟩))
      go_ret
      exact ⟨rfl, rfl⟩
    · rw [gapF_yes hx hy]
      rcases topOf_cases b with ⟨rfl, ht⟩ | ⟨rfl, ht⟩ | ⟨h1, h2, ht⟩
      · clear ht
        go_enter Try.func318, Try.ntmps318
        go_wp2_with (go_at_call 309; first | ((with_reducible refine (serIs_eq _ _ _ _ hx).mono ?_); rintro e w' ⟨rfl, rfl⟩) | ((with_reducible refine (serIs_eq _ _ _ _ hy).mono ?_); rintro e w' ⟨rfl, rfl⟩))
        go_ret
        refine ⟨ret_int ?_, rfl⟩
        rw [topOf16, u16_mod, u16_mod, u16_mod, w64_in (by omega)]; omega
      · clear ht
        go_enter Try.func318, Try.ntmps318
        go_wp2_with (go_at_call 309; first | ((with_reducible refine (serIs_eq _ _ _ _ hx).mono ?_); rintro e w' ⟨rfl, rfl⟩) | ((with_reducible refine (serIs_eq _ _ _ _ hy).mono ?_); rintro e w' ⟨rfl, rfl⟩))
        go_ret
        exact ⟨ret_int (by rw [topOf32]), rfl⟩
      · rw [isB_iff, ht] at hx; omega

set_option maxHeartbeats 400000 in
theorem specGap_any (a c b : Int) (w : World) : Calls Try.prog 195 #[.int .i64 a, .int .i64 c, .int .i64 b] w fun e w' => e = .returned (.int .i64 (gapF a c b)) ∧ w = w' := by
  rcases topOf_cases b with ⟨rfl, ht⟩ | ⟨rfl, ht⟩ | ⟨h1, h2, ht⟩
  rotate_right
  · have hx : isB a b = false := by rw [isB_not, ht]; omega
    rw [gapF_no1 hx]
    go_enter Try.func195, Try.ntmps195
    go_wp2_with (first | (go_at_call 268; refine (l1Size_any _ _).mono ?_; rintro e w' ⟨rfl, rfl⟩))
    go_ret
    exact ⟨rfl, rfl⟩
  all_goals
    rcases hx : isB a _ with _ | _
    · rw [gapF_no1 hx]
      first | have hi := inB16 hx | have hi := inB32 hx
      go_enter Try.func195, Try.ntmps195
      go_wp2_with (first | (go_at_call 268; refine (l1Size_any _ _).mono ?_; rintro e w' ⟨rfl, rfl⟩) | (go_at_call 108; refine (l1In_any _ _ _ _).mono ?_; rintro e w' ⟨rfl, rfl⟩))
      go_ret
      exact ⟨rfl, rfl⟩
    · rcases hy : isB c _ with _ | _
      · rw [gapF_no2 hy]
        first | have hi := inB16 hx | have hi := inB32 hx
        first | have hj := inB16 hy | have hj := inB32 hy
        go_enter Try.func195, Try.ntmps195
        go_wp2_with (first | (go_at_call 268; refine (l1Size_any _ _).mono ?_; rintro e w' ⟨rfl, rfl⟩) | (go_at_call 108; refine (l1In_any _ _ _ _).mono ?_; rintro e w' ⟨rfl, rfl⟩))
        go_ret
        exact ⟨rfl, rfl⟩
      · rw [gapF_yes hx hy]
        have ha := isB_iff.1 hx
        have hc := isB_iff.1 hy
        rw [ht] at ha hc
        first | have hi := inB16 hx | have hi := inB32 hx
        first | have hj := inB16 hy | have hj := inB32 hy
        go_enter Try.func195, Try.ntmps195
        go_wp2_with (first | (go_at_call 268; refine (l1Size_any _ _).mono ?_; rintro e w' ⟨rfl, rfl⟩) | (go_at_call 108; refine (l1In_any _ _ _ _).mono ?_; rintro e w' ⟨rfl, rfl⟩))
        go_ret
        exact ⟨ret_int (by rw [ht]; omega), rfl⟩

theorem gapF_lo (a c b : Int) : 0 ≤ gapF a c b := by
  unfold gapF; split
  · rename_i h; have := isB_iff.1 h.1; exact Int.emod_nonneg _ (by omega)
  · omega
theorem gapF_hi (a c b : Int) : gapF a c b ≤ 4294967295 := by
  have ht := topOf_cases b
  unfold gapF; split
  · rename_i h; have := isB_iff.1 h.1; have := Int.emod_lt_of_pos (c - a) (b := topOf b) (by omega); omega
  · omega

theorem half16 : IntKind.u16.wrap ((bits BinOp.xor IntKind.u16 IntKind.u16.max 0).tdiv 2) = 32767 := by kernel_rfl
theorem half32 : (bits BinOp.xor IntKind.u32 IntKind.u32.max 0).tdiv 2 % 4294967296 = 2147483647 := by kernel_rfl
def lessB (x t : Int) : Bool := decide (0 < x) && decide (x < t / 2)
theorem lessB_lo (x t : Int) (h : x ≤ 0) : lessB x t = false := by simp [lessB]; omega

/-- SerLess. -/
def lessF (a c b : Int) : Bool := lessB (gapF a c b) (topOf b)
theorem lessF_yes {a c b : Int} (h : isB a b = true) (h2 : isB c b = true) : lessF a c b = lessB ((c - a) % topOf b) (topOf b) := by rw [lessF, gapF_yes h h2]
theorem lessF_no1 {a c b : Int} (h : isB a b = false) : lessF a c b = false := by rw [lessF, gapF_no1 h]; exact lessB_lo _ _ (by omega)
theorem lessF_no2 {a c b : Int} (h : isB c b = false) : lessF a c b = false := by rw [lessF, gapF_no2 h]; exact lessB_lo _ _ (by omega)
end Go.Proofs.Ythdjjgbjemaabaa
