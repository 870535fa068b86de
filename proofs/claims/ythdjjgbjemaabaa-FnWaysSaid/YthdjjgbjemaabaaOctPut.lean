/-
  The contracts of OctPut, of the program and of the model, and of what they call.
-/
import Derived.Test.YthdjjgbjemaabaaHlpB
import Derived.Test.YthdjjgbjemaabaaSer
import Derived.Maps.OwnSet
import Derived.Maps.OwnOps
namespace Go.Proofs.Ythdjjgbjemaabaa
open Go.ChangeShapes Go.WideShapes Go.ChangeAt Go.RowKit Go.Maps

/-- The greatest byte first: the s lowest bytes of n. -/
def be (n : Nat) : Nat → List UInt8
  | 0 => []
  | s + 1 => UInt8.ofNat (n / 256 ^ s) :: be n s
theorem be_len (n s : Nat) : (be n s).length = s := by induction s with
  | zero => rfl
  | succ s ih => simp [be, ih]
theorem be_div (n s : Nat) : be n (s + 1) = be (n / 256) s ++ [UInt8.ofNat n] := by
  induction s with
  | zero => simp [be]
  | succ s ih =>
    rw [be, ih]
    simp only [be, List.cons_append]
    rw [Nat.div_div_eq_div_mul, Nat.pow_succ, Nat.mul_comm]
def topL2 (s : Int) : Int := if s = 1 then 256 else if s = 2 then 65536 else if s = 4 then 4294967296 else 0
theorem topL2_cases (s : Int) : (s = 1 ∧ topL2 s = 256) ∨ (s = 2 ∧ topL2 s = 65536) ∨ (s = 4 ∧ topL2 s = 4294967296) ∨ (s ≠ 1 ∧ s ≠ 2 ∧ s ≠ 4 ∧ topL2 s = 0) := by
  unfold topL2
  by_cases h1 : s = 1
  · simp [h1]
  · by_cases h2 : s = 2
    · simp [h2]
    · by_cases h3 : s = 4
      · simp [h3]
      · simp [h1, h2, h3]
set_option maxHeartbeats 400000 in
theorem l2Top_any (s : Int) (w : World) : Calls Try.prog 320 #[.int .i64 s] w fun e w' => e = .returned (.int .i64 (topL2 s)) ∧ w = w' := by
  rcases topL2_cases s with ⟨rfl, h⟩ | ⟨rfl, h⟩ | ⟨rfl, h⟩ | ⟨h1, h2, h3, h⟩
  all_goals
    rw [h]; clear h
    go_enter Try.func320, Try.ntmps320
    go_wp2
    go_ret
    exact ⟨rfl, rfl⟩
theorem be_pre_len {n s j : Nat} {pre : List UInt8} (h : pre ++ be n j = be n s) : pre.length + j = s := by
  have := congrArg List.length h
  simpa [be_len] using this
theorem be_pre_step {n s j : Nat} {pre : List UInt8} (h : pre ++ be n (j + 1) = be n s) : (pre ++ [UInt8.ofNat (n / 256 ^ j)]) ++ be n j = be n s := by
  rw [← h]; simp [be]
set_option maxHeartbeats 400000 in
/-- impl.octAppend -/
theorem octAppend_any (v : Value) (n s lo hi : Nat) (xs : List UInt8) (w : World) (hv : OwB w lo hi v xs) (hn : n ≤ 4294967295) (hs : s ≤ 4) (hx : xs.length ≤ 4294967296) (hlo : lo ≤ w.heap.size) (hhi : hi ≤ w.heap.size) :
    Calls Try.prog 207 #[v, .int .i64 n, .int .i64 s] w fun e w' => ∃ v', e = .returned v' ∧ OwB w' lo w'.heap.size v' (xs ++ be n s) ∧ (∀ k, v'.ownBlock = some k → k < hi ∨ w.heap.size ≤ k) ∧ Fr lo hi w w' := by
  go_enter Try.func207, Try.ntmps207
  go_wp2
  go_loopw [0, 7] (fun u q w1 => ∃ (j : Nat) (pre : List UInt8), j ≤ s ∧ q = .int .i64 (8 * ((j : Int) - 1)) ∧ pre ++ be n j = be n s ∧ OwB w1 lo w1.heap.size u (xs ++ pre) ∧ (∀ k, u.ownBlock = some k → k < hi ∨ w.heap.size ≤ k) ∧ Fr lo hi w w1) (fun _ q _ => (intOf q + 8).toNat)
  case atStart => exact ⟨s, [], by omega, rfl, rfl, by simpa using hv.mono hhi, fun k hk => .inl (hv.2 k hk), Fr.refl _ _ _⟩
  case round =>
    obtain ⟨j, pre, hj, rfl, hp, ho, hk, hf⟩ := hrel
    have Hp := Lib.hid hp
    have Ho := Lib.hid ho
    have Hk := Lib.hid hk
    have Hf := Lib.hid hf
    clear hp ho hk hf
    by_cases hj0 : j = 0
    · subst hj0
      go_wp2
      go_ret
      refine ⟨_, rfl, ?_, Hk.out, Hf.out⟩
      have h := Ho.out
      rw [show pre = be n s by simpa [be] using Hp.out] at h
      exact h
    · have hjj : j = 1 ∨ j = 2 ∨ j = 3 ∨ j = 4 := by omega
      rcases hjj with rfl | rfl | rfl | rfl
      · go_wp2_with (at_builtin; refine wpList_appB (ys := [UInt8.ofNat (n / 256 ^ 0)]) _ rfl (.tmp 15) (.tmp 20) rfl rfl rfl (OwB.alloc Ho.out _) (rd_new' _ _ _ _ (byt_val (by omega))) ?_ ?_ ?_)
        · have := be_pre_len Hp.out
          simp; omega
        · have := Hf.out.size
          simp; omega
        intro v' w' h1 h2 h3
        obtain ⟨h4, h5⟩ := app_fr Hk.out Ho.out.lo_le Hf.out ((Below.refl _ _).alloc (Nat.le_refl _) _) h2 (by simp) h3
        go_wp2
        exact ⟨⟨0, pre ++ [UInt8.ofNat (n / 256 ^ 0)], by omega, rfl, be_pre_step Hp.out, by simpa using h1, h4, h5⟩, by simp [intOf]⟩
      · go_wp2_with (at_builtin; refine wpList_appB (ys := [UInt8.ofNat (n / 256 ^ 1)]) _ rfl (.tmp 15) (.tmp 20) rfl rfl rfl (OwB.alloc Ho.out _) (rd_new' _ _ _ _ (byt_val (by omega))) ?_ ?_ ?_)
        · have := be_pre_len Hp.out
          simp; omega
        · have := Hf.out.size
          simp; omega
        intro v' w' h1 h2 h3
        obtain ⟨h4, h5⟩ := app_fr Hk.out Ho.out.lo_le Hf.out ((Below.refl _ _).alloc (Nat.le_refl _) _) h2 (by simp) h3
        go_wp2
        exact ⟨⟨1, pre ++ [UInt8.ofNat (n / 256 ^ 1)], by omega, rfl, be_pre_step Hp.out, by simpa using h1, h4, h5⟩, by simp [intOf]⟩
      · go_wp2_with (at_builtin; refine wpList_appB (ys := [UInt8.ofNat (n / 256 ^ 2)]) _ rfl (.tmp 15) (.tmp 20) rfl rfl rfl (OwB.alloc Ho.out _) (rd_new' _ _ _ _ (byt_val (by omega))) ?_ ?_ ?_)
        · have := be_pre_len Hp.out
          simp; omega
        · have := Hf.out.size
          simp; omega
        intro v' w' h1 h2 h3
        obtain ⟨h4, h5⟩ := app_fr Hk.out Ho.out.lo_le Hf.out ((Below.refl _ _).alloc (Nat.le_refl _) _) h2 (by simp) h3
        go_wp2
        exact ⟨⟨2, pre ++ [UInt8.ofNat (n / 256 ^ 2)], by omega, rfl, be_pre_step Hp.out, by simpa using h1, h4, h5⟩, by simp [intOf]⟩
      · go_wp2_with (at_builtin; refine wpList_appB (ys := [UInt8.ofNat (n / 256 ^ 3)]) _ rfl (.tmp 15) (.tmp 20) rfl rfl rfl (OwB.alloc Ho.out _) (rd_new' _ _ _ _ (byt_val (by omega))) ?_ ?_ ?_)
        · have := be_pre_len Hp.out
          simp; omega
        · have := Hf.out.size
          simp; omega
        intro v' w' h1 h2 h3
        obtain ⟨h4, h5⟩ := app_fr Hk.out Ho.out.lo_le Hf.out ((Below.refl _ _).alloc (Nat.le_refl _) _) h2 (by simp) h3
        go_wp2
        exact ⟨⟨3, pre ++ [UInt8.ofNat (n / 256 ^ 3)], by omega, rfl, be_pre_step Hp.out, by simpa using h1, h4, h5⟩, by simp [intOf]⟩
theorem keyedInt : Keyed Try.prog 3 := int_keyed Try.underlying3
theorem zeroInt (w : World) : (zeroValue 3).run Try.prog w = .ok (.int .i64 0) w := by kernel_rfl
/-- The greatest number of each size. -/
def topsD : DataW Unit := .map [(.int .i64 1, .lit (.int .i64 255)), (.int .i64 2, .lit (.int .i64 65535)), (.int .i64 4, .lit (.int .i64 4294967295))]
/-- OctPut. -/
def putF (n s : Int) : List UInt8 := if 0 ≤ n ∧ n < topL2 s then be n.toNat s.toNat else []
theorem putF_yes {n s : Int} (h : 0 ≤ n ∧ n < topL2 s) : putF n s = be n.toNat s.toNat := if_pos h
theorem putF_no {n s : Int} (h : ¬ (0 ≤ n ∧ n < topL2 s)) : putF n s = [] := if_neg h
theorem putF_len (n s : Int) : (putF n s).length ≤ 4 := by
  unfold putF; split
  · rename_i h; rw [be_len]; have := topL2_cases s; omega
  · simp
theorem tops_at (s c : Int) (h : topsD.atKey (.int .i64 s) (.lit (.int .i64 0)) = .lit (.int .i64 c)) : (topL2 s = c + 1 ∧ Maps.has topsD (.int .i64 s) = true) ∨ (topL2 s = 0 ∧ Maps.has topsD (.int .i64 s) = false) := by
  rcases topL2_cases s with ⟨rfl, h1⟩ | ⟨rfl, h1⟩ | ⟨rfl, h1⟩ | ⟨h1, h2, h3, h4⟩
  · left; refine ⟨?_, rfl⟩
    have : (DataW.lit (.int .i64 255) : DataW Unit) = .lit (.int .i64 c) := h
    injection this with h; injection h with _ h; omega
  · left; refine ⟨?_, rfl⟩
    have : (DataW.lit (.int .i64 65535) : DataW Unit) = .lit (.int .i64 c) := h
    injection this with h; injection h with _ h; omega
  · left; refine ⟨?_, rfl⟩
    have : (DataW.lit (.int .i64 4294967295) : DataW Unit) = .lit (.int .i64 c) := h
    injection this with h; injection h with _ h; omega
  · right; refine ⟨h4, ?_⟩
    have e1 : ¬ (1 = s) := fun h => h1 h.symm
    have e2 : ¬ (2 = s) := fun h => h2 h.symm
    have e3 : ¬ (4 = s) := fun h => h3 h.symm
    simp [Maps.has, topsD, Lit.sameKey, e1, e2, e3]
theorem octAppend_int (v : Value) (n s : Int) (lo hi : Nat) (xs : List UInt8) (w : World) (hv : OwB w lo hi v xs) (hn : 0 ≤ n ∧ n ≤ 4294967295) (hs : 0 ≤ s ∧ s ≤ 4) (hx : xs.length ≤ 4294967296) (hlo : lo ≤ w.heap.size) (hhi : hi ≤ w.heap.size) :
    Calls Try.prog 207 #[v, .int .i64 n, .int .i64 s] w fun e w' => ∃ v', e = .returned v' ∧ OwB w' lo w'.heap.size v' (xs ++ be n.toNat s.toNat) ∧ (∀ k, v'.ownBlock = some k → k < hi ∨ w.heap.size ≤ k) ∧ Fr lo hi w w' := by
  have h := octAppend_any v n.toNat s.toNat lo hi xs w hv (by omega) (by omega) hx hlo hhi
  rw [Int.toNat_of_nonneg hn.1, Int.toNat_of_nonneg hs.1] at h
  exact h
theorem be_succ_int (n : Nat) (j : Nat) : UInt8.ofNat ((((n / 256 ^ j : Nat) : Int) % 256)).toNat :: be n j = be n (j + 1) := by
  rw [be]; congr 1
  apply UInt8.toNat_inj.1
  rw [UInt8.toNat_ofNat', UInt8.toNat_ofNat']
  omega
set_option maxHeartbeats 400000 in
theorem specPut_any (n s : Int) (w : World) : Calls Try.prog 278 #[.int .i64 n, .int .i64 s] w fun e w' => ∃ v, e = .returned v ∧ OwB w' w.heap.size w'.heap.size v (putF n s) ∧ Below w.heap.size w w' := by
  have hc := topL2_cases s
  have t0 : 0 ≤ topL2 s := by omega
  have t1 : topL2 s ≤ 4294967296 := by omega
  by_cases hy : 0 ≤ n ∧ n < topL2 s
  · have Hp := Lib.hid (putF_yes hy)
    have hi : inB n 0 (topL2 s - 1) = true := by rw [inB_iff]; omega
    obtain ⟨N, rfl⟩ := Int.eq_ofNat_of_zero_le hy.1
    obtain ⟨S, rfl⟩ := Int.eq_ofNat_of_zero_le (show 0 ≤ s by omega)
    have hS : S ≤ 4 := by omega
    have hN : N ≤ 4294967295 := by omega
    clear hy hc
    go_enter Try.func278, Try.ntmps278
    go_wp2_with (first | (go_at_call 320; refine (l2Top_any _ _).mono ?_; rintro e w' ⟨rfl, rfl⟩) | (go_at_call 108; refine (l1In_any _ _ _ _).mono ?_; rintro e w' ⟨rfl, rfl⟩))
    go_loopw [0, 5, 6] (fun q u i w1 => ∃ j : Nat, j ≤ S ∧ i = .int .i64 j ∧ q = .int .i64 ((N / 256 ^ j : Nat) : Int) ∧ OwB w1 w.heap.size w1.heap.size u (be N j) ∧ Below w.heap.size w w1) (fun _ _ i _ => S - (intOf i).toNat)
    case atStart => exact ⟨0, by omega, rfl, by simp, OwB.lit w _ [] 0 _ rfl rfl (by decide) (Nat.le_refl _), (Below.refl _ _).alloc (Nat.le_refl _) _⟩
    case round =>
      obtain ⟨j, hj, rfl, rfl, ho, hb⟩ := hrel
      have Ho := Lib.hid ho
      have Hb := Lib.hid hb
      have hz := hb.size
      clear ho hb
      by_cases hlt : j < S
      · have hd : N / 256 ^ j ≤ 4294967295 := Nat.le_trans (Nat.div_le_self _ _) hN
        have HS := Lib.hid (be_succ_int N j)
        have HD := Lib.hid (show N / 256 ^ j / 256 = N / 256 ^ (j + 1) by rw [Nat.div_div_eq_div_mul, Nat.pow_succ])
        generalize N / 256 ^ j = M at *
        go_wp2_with (at_builtin; refine wpList_appB _ rfl (.tmp 23) (.tmp 24) rfl rfl rfl (OwB.lit _ _ [UInt8.ofNat ((M : Int) % 256).toNat] 1 w.heap.size (by simp [← byt_mod]) rfl (by decide) hz) (Ho.out.alloc _).rd ?_ ?_ ?_)
        · simp [be_len]; omega
        · simp; omega
        intro v' w' h1 h2 h3
        have H1 := Lib.hid (show OwB w' w.heap.size w'.heap.size v' (be N (j + 1)) by rw [← HS.out]; exact h1)
        clear h1
        have h4 := (Hb.out.alloc hz _).grown h3 (by simp; omega) (by simp [Value.ownBlock]; omega)
        go_wp2
        exact ⟨⟨j + 1, by omega, by go_num, congrArg _ (by rw [← HD.out]; rfl), H1.out, h4⟩, by simp [intOf]; omega⟩
      · have : j = S := by omega
        subst this
        go_wp2
        go_ret
        refine ⟨_, rfl, ?_, Hb.out⟩
        rw [Hp.out]; exact Ho.out
  · have Hp := Lib.hid (putF_no hy)
    have hi : inB n 0 (topL2 s - 1) = false := by rw [inB_not]; omega
    clear hc hy
    go_enter Try.func278, Try.ntmps278
    go_wp2_with (first | (go_at_call 320; refine (l2Top_any _ _).mono ?_; rintro e w' ⟨rfl, rfl⟩) | (go_at_call 108; refine (l1In_any _ _ _ _).mono ?_; rintro e w' ⟨rfl, rfl⟩))
    go_ret
    refine ⟨_, rfl, ?_, (Below.refl _ _).alloc (Nat.le_refl _) _⟩
    rw [Hp.out]
    exact OwB.lit w _ [] 0 _ rfl rfl (by decide) (Nat.le_refl _)

end Go.Proofs.Ythdjjgbjemaabaa
