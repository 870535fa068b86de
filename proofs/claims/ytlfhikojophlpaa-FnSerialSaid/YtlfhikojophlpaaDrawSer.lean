/-
  The draws of numbers that wrap: whatever the code, they answer ints, and turn nothing that was there.
-/
import Derived.Test.YtlfhikojophlpaaDraw
namespace Go.Proofs.Ytlfhikojophlpaa
open Go.ChangeShapes Go.WideShapes Go.ChangeAt Go.RowKit Go.Maps
set_option linter.unusedVariables false

set_option maxHeartbeats 400000 in
theorem l30Bits_any (g p : Nat) (xs : List UInt8) (w : World) (hr : Rdr w g xs p) (hp : p ≤ 1099511627776) :
    Calls Try.prog 33 #[.pointer (some ⟨g, 0, none⟩)] w (Drew (fun x => x = 16 ∨ x = 32 ∨ x = 8) w g xs p 1) := by
  have hlt := hr.lt
  go_enter Try.func33, Try.ntmps33
  go_wp2_with fail
  refine (pick_int g p 4 xs _ (hr.alloc _) hp (by omega)).mono ?_
  rintro e w' ⟨x, q, hx, rfl, hq, hr', hf⟩
  obtain ⟨k, rfl⟩ := Int.eq_ofNat_of_zero_le hx.1
  have hk : k < 4 := by omega
  have hc := tab_at [16, 32, 32, 8] _ rfl hf (.inr (by omega)) hk
  have Hf := Lib.hid ((Fr.refl g (g + 1) w).alloc _ |>.trans hf)
  have Hp := Lib.hid (getD_mem (P := fun x => x = 16 ∨ x = 32 ∨ x = 8) (zs := [16, 32, 32, 8]) hk (by simp))
  clear hf hr
  generalize tv [16, 32, 32, 8] k = z at *
  go_wp2
  go_ret
  exact ⟨_, q, Hp.out, rfl, hq, hr', Hf.out⟩
set_option maxHeartbeats 400000 in
theorem l30Odd_any (g p : Nat) (xs : List UInt8) (w : World) (hr : Rdr w g xs p) (hp : p ≤ 1099511627776) :
    Calls Try.prog 51 #[.pointer (some ⟨g, 0, none⟩)] w (Drew isInt w g xs p 1) := by
  have hlt := hr.lt
  go_enter Try.func51, Try.ntmps51
  go_wp2_with fail
  refine (pick_int g p 5 xs _ (hr.alloc _) hp (by omega)).mono ?_
  rintro e w' ⟨x, q, hx, rfl, hq, hr', hf⟩
  obtain ⟨k, rfl⟩ := Int.eq_ofNat_of_zero_le hx.1
  have hk : k < 5 := by omega
  have hc := tab_at [-1, 4294967296, 65536, -9223372036854775808, 9223372036854775807] _ rfl hf (.inr (by omega)) hk
  have Hf := Lib.hid ((Fr.refl g (g + 1) w).alloc _ |>.trans hf)
  have Hp := Lib.hid (getD_mem (P := isInt) (zs := [-1, 4294967296, 65536, -9223372036854775808, 9223372036854775807]) hk (by simp [isInt]))
  clear hf hr
  generalize tv [-1, 4294967296, 65536, -9223372036854775808, 9223372036854775807] k = z at *
  go_wp2
  go_ret
  exact ⟨_, q, Hp.out, rfl, hq, hr', Hf.out⟩
set_option maxHeartbeats 400000 in
theorem l30Num_any (g p : Nat) (bits : Int) (xs : List UInt8) (w : World) (hr : Rdr w g xs p) (hp : p + 3 ≤ 1099511627776) :
    Calls Try.prog 34 #[.pointer (some ⟨g, 0, none⟩), .int .i64 bits] w (Drew isInt w g xs p 3) := by
  by_cases hb : bits = 16
  all_goals
    first | subst hb | have hb' : (bits == 16) = false := by simp [hb]
    go_enter Try.func34, Try.ntmps34
    go_wp2_with fail
    refine (pick_int g p 12 xs _ hr (by omega) (by omega)).mono ?_
    rintro e w1 ⟨y, q1, hy, rfl, hq1, hr1, hf1⟩
    have Hf1 := Lib.hid hf1
    clear hf1
    by_cases h0 : y = 0
    · subst h0
      go_wp2_with fail
      refine (l30Odd_any g q1 xs _ hr1 (by omega)).mono ?_
      rintro e w2 ⟨z, q2, hz, rfl, hq2, hr2, hf2⟩
      have Hf2 := Lib.hid (Hf1.out.trans hf2)
      have Hz := Lib.hid hz
      clear hf2 hz
      go_wp2
      go_ret
      exact ⟨_, q2, Hz.out, rfl, by omega, hr2, Hf2.out⟩
    · have h0' : (y == 0) = false := by simp [h0]
      go_wp2_with fail
      refine (l30Long_any g q1 xs _ hr1 (by omega)).mono ?_
      rintro e w2 ⟨z, q2, hz, rfl, hq2, hr2, hf2⟩
      have Hf2 := Lib.hid (Hf1.out.trans hf2)
      have hz' : 0 ≤ z ∧ z ≤ 4294967295 := hz
      clear hf2 hz
      go_wp2
      go_ret
      refine ⟨_, q2, ?_, rfl, by omega, hr2, Hf2.out⟩
      simp [isInt]; omega
def addTab (y : Int) : List Int := [0, 1, -1, 7, -65537, 4294967297, 9223372036854775807, -9223372036854775808, y]
theorem addTab_int {y : Int} (hy : 0 ≤ y ∧ y < 256) {k : Nat} (hk : k < 9) : isInt (tv (addTab y) k) := getD_mem hk (by simp [isInt, addTab]; omega)
set_option maxHeartbeats 1000000 in
theorem drawSerAdd_any (v : Value) (xs : List UInt8) (w : World) (hv : RdB w v xs) :
    Calls Try.prog 10 #[v] w fun e w' => ∃ a n b : Int, (isInt a ∧ isInt n ∧ isInt b) ∧ e = .returned (.tuple #[.int .i64 a, .int .i64 n, .int .i64 b]) ∧ Below w.heap.size w w' := by
  go_enter Try.func10, Try.ntmps10
  go_wp2_with fail
  refine (l30Open_any v xs _ hv).mono ?_
  rintro e w1 ⟨rfl, hr1, hb1, hs1⟩
  have Hb1 := Lib.hid hb1
  have Hs1 := Lib.hid hs1
  clear hb1 hs1
  generalize hg : w.heap.size = g at *
  have Hg := Lib.hid hg
  clear hg
  generalize xs.take 2000 = ys at *
  go_wp2_with fail
  refine (l30Bits_any g 0 ys _ hr1 (by omega)).mono ?_
  rintro e w2 ⟨b, q2, hb, rfl, hq2, hr2, hf2⟩
  have Hf2 := Lib.hid hf2
  have Hb := Lib.hid hb
  clear hf2 hr1 hb
  go_wp2_with fail
  go_region_with (first
      | (go_at_call 34; refine (l30Num_any g q2 _ ys _ (by exact hr2) (by omega)).mono ?_; rintro e w3 ⟨a, q3, ha, rfl, hq3, hr3, hf3⟩)
      | (go_at_call_of 35 (Value.int IntKind.i64 256); refine (pick_int g q3 256 ys _ (by exact hr3) (by omega) (by omega)).mono ?_; rintro e w4 ⟨y, q4, hy, rfl, hq4, hr4, hf4⟩; have hlt4 := hr4.lt)
      | (go_at_call_of 35 (Value.int IntKind.i64 9); refine (pick_int g q4 9 ys _ (by first | exact hr4 | exact hr4.alloc _) (by omega) (by omega)).mono ?_; rintro e w5 ⟨z, q5, hz, rfl, hq5, hr5, hf5⟩; obtain ⟨k, rfl⟩ := Int.eq_ofNat_of_zero_le hz.1; have hk : k < 9 := by omega
         first
         | have hc := tab_at (addTab y) _ rfl hf5 (.inr (by omega)) hk
         | have hc := tab_new (addTab y) _ rfl hk w5))
  · have Hp := Lib.hid (addTab_int hy hk)
    have Hb5 := Lib.hid (show Below g w w5 from Hb1.out.trans (((((Hf2.out.trans hf3.undrew).trans hf4).alloc _).trans hf5).below (Nat.le_refl _) (by rw [Hs1.out]; omega)))
    clear hf3 hf4 hf5 hc
    generalize tv (addTab y) k = n at *
    go_wp2
    go_ret3
    exact ⟨a, n, b, ⟨ha, Hp.out, by have := Hb.out; simp [isInt]; omega⟩, rfl, by rw [Hg.out]; exact Hb5.out⟩
  · have Hp := Lib.hid (addTab_int hy hk)
    have Hb5 := Lib.hid (fun o => show Below g w (w5.alloc o) from Hb1.out.trans (((((Hf2.out.trans hf3.undrew).trans hf4).trans hf5).alloc o).below (Nat.le_refl _) (by rw [Hs1.out]; omega)))
    clear hf3 hf4 hf5 hc
    go_wp2
    go_ret3
    exact ⟨a, _, b, ⟨ha, Hp.out, by have := Hb.out; simp [isInt]; omega⟩, congrArg (fun u => Ending.returned (.tuple #[.int .i64 a, u, .int .i64 b])) (tab_elem (addTab y) (k := k) hk), by rw [Hg.out]; exact Hb5.out _⟩
def serTab : List Int := [0, 1, -1, 32767, 32768, 2147483647, 2147483648, -2147483648]
theorem addF_int (a n b : Int) : isInt (addF a n b) := by
  unfold addF isInt
  have := topOf_cases b
  split
  · rename_i h
    have h2 := isB_iff.1 h
    have h3 := Int.emod_nonneg (a + n) (b := topOf b) (by omega)
    have h4 := Int.emod_lt_of_pos (a + n) (b := topOf b) (by omega)
    omega
  · omega
set_option maxHeartbeats 1000000 in
theorem l30Ser_any (g p : Nat) (xs : List UInt8) (w : World) (hr : Rdr w g xs p) (hp : p + 8 ≤ 1099511627776) :
    Calls Try.prog 39 #[.pointer (some ⟨g, 0, none⟩)] w fun e w' => ∃ a n b : Int, (isInt a ∧ isInt n ∧ isInt b) ∧ e = .returned (.tuple #[.int .i64 a, .int .i64 n, .int .i64 b]) ∧ Fr g (g + 1) w w' := by
  have hlt := hr.lt
  go_enter Try.func39, Try.ntmps39
  go_wp2_with fail
  refine (l30Bits_any g p xs _ hr (by omega)).mono ?_
  rintro e w1 ⟨b, q1, hb, rfl, hq1, hr1, hf1⟩
  have Hf1 := Lib.hid hf1
  have Hb := Lib.hid hb
  clear hf1 hr hb
  go_wp2_with fail
  refine (l30Num_any g q1 b xs _ hr1 (by omega)).mono ?_
  rintro e w2 ⟨a, q2, ha, rfl, hq2, hr2, hf2⟩
  have Hf2 := Lib.hid (Hf1.out.trans hf2)
  have Ha := Lib.hid ha
  clear hf2 hr1 ha Hf1
  go_wp2_with fail
  refine (pick_int g q2 2 xs _ hr2 (by omega) (by omega)).mono ?_
  rintro e w3 ⟨c, q3, hc, rfl, hq3, hr3, hf3⟩
  have hlt3 := hr3.lt
  have Hf3 := Lib.hid (Hf2.out.trans hf3)
  clear hf3 hr2 Hf2
  by_cases h0 : c = 0
  · subst h0
    go_wp2_with fail
    refine (pick_int g q3 8 xs _ (hr3.alloc _) (by omega) (by omega)).mono ?_
    rintro e w4 ⟨z, q4, hz, rfl, hq4, hr4, hf4⟩
    obtain ⟨k, rfl⟩ := Int.eq_ofNat_of_zero_le hz.1
    have hk : k < 8 := by omega
    have hcc := tab_at serTab _ rfl hf4 (.inr (by omega)) hk
    have Hf4 := Lib.hid ((Hf3.out.alloc _).trans hf4)
    clear hf4 Hf3
    generalize tv serTab k = m at *
    go_wp2_with fail
    refine (specAdd_any _ _ _ _).mono ?_
    rintro e w5 ⟨rfl, rfl⟩
    have Hi := Lib.hid (addF_int a m b)
    generalize addF a m b = n at *
    go_wp2
    go_ret3
    exact ⟨a, n, b, ⟨Ha.out, Hi.out, by have := Hb.out; simp [isInt]; omega⟩, rfl, Hf4.out⟩
  · have h0' : (c == 0) = false := by simp [h0]
    go_wp2_with fail
    refine (l30Num_any g q3 b xs _ hr3 (by omega)).mono ?_
    rintro e w4 ⟨n, q4, hn, rfl, hq4, hr4, hf4⟩
    have Hf4 := Lib.hid (Hf3.out.trans hf4)
    have Hn := Lib.hid hn
    clear hf4 hn Hf3
    go_wp2
    go_ret3
    exact ⟨a, n, b, ⟨Ha.out, Hn.out, by have := Hb.out; simp [isInt]; omega⟩, rfl, Hf4.out⟩
set_option maxHeartbeats 1000000 in
theorem drawSerLess_any (v : Value) (xs : List UInt8) (w : World) (hv : RdB w v xs) :
    Calls Try.prog 13 #[v] w fun e w' => ∃ a n b : Int, (isInt a ∧ isInt n ∧ isInt b) ∧ e = .returned (.tuple #[.int .i64 a, .int .i64 n, .int .i64 b]) ∧ Below w.heap.size w w' := by
  go_enter Try.func13, Try.ntmps13
  go_wp2_with fail
  refine (l30Open_any v xs _ hv).mono ?_
  rintro e w1 ⟨rfl, hr1, hb1, hs1⟩
  have Hb1 := Lib.hid hb1
  have Hs1 := Lib.hid hs1
  clear hb1 hs1
  go_wp2_with fail
  refine (l30Ser_any _ 0 _ _ hr1 (by omega)).mono ?_
  rintro e w2 ⟨a, n, b, hi, rfl, hf⟩
  have Hf := Lib.hid (Hb1.out.trans (hf.below (Nat.le_refl _) (by rw [Hs1.out]; omega)))
  have Hi := Lib.hid hi
  clear hf hi Hs1 Hb1 hr1
  go_wp2
  go_ret3
  exact ⟨a, n, b, Hi.out, rfl, Hf.out⟩

end Go.Proofs.Ytlfhikojophlpaa
