/-
  Is a receiving side ok? The contracts of the small functions of both programs: places of numbers, and the bits of what was seen.
-/
import Derived.Test.YthdjjgbjemaabaaInOk
namespace Go.Proofs.Ythdjjgbjemaabaa
open Go.ChangeShapes Go.WideShapes Go.ChangeAt Go.RowKit
set_option linter.unusedVariables false
set_option linter.unusedSimpArgs false

set_option maxHeartbeats 400000 in
theorem l9Pos_r (cs : List Value) (x : DDatIn) (t : Int) (w : World) (h : FDatIn w cs x) : Calls Try.prog 267 #[.agg cs.toArray, .int .i64 t] w fun e w' => e = .returned (.int .i64 (posF x.xCum t)) ∧ Below w.heap.size w w' := by
  obtain ⟨v2, v3, v4, rfl, h2, h3, h4⟩ := h
  clear h2 h3 h4
  go_enter Try.func267, Try.ntmps267
  go_wp2_with (first | (go_at_call 248; refine (specAdd_any _ _ _ _).mono ?_; rintro e w' ⟨rfl, rfl⟩) | (go_at_call 195; refine (specGap_any _ _ _ _).mono ?_; rintro e w' ⟨rfl, rfl⟩))
  go_ret
  exact ⟨rfl, (Below.refl _ _).alloc (Nat.le_refl _) _⟩
set_option maxHeartbeats 400000 in
theorem datFar_r (cs : List Value) (x : DDatIn) (t : Int) (w : World) (h : FDatIn w cs x) : Calls Try.prog 273 #[.agg cs.toArray, .int .i64 t] w fun e w' => e = .returned (.int .i64 (gapF x.xCum t 32)) ∧ Below w.heap.size w w' := by
  obtain ⟨v2, v3, v4, rfl, h2, h3, h4⟩ := h
  clear h2 h3 h4
  go_enter Try.func273, Try.ntmps273
  go_wp2_with (go_at_call 318; refine (implGap_any _ _ _ _).mono ?_; rintro e w' ⟨rfl, rfl⟩)
  go_ret
  exact ⟨rfl, (Below.refl _ _).alloc (Nat.le_refl _) _⟩
set_option maxHeartbeats 400000 in
theorem datOldest_r (cs : List Value) (x : DDatIn) (w : World) (h : FDatIn w cs x) : Calls Try.prog 337 #[.agg cs.toArray] w fun e w' => e = .returned (.int .i64 (addF x.xCum (-59) 32)) ∧ Below w.heap.size w w' := by
  obtain ⟨v2, v3, v4, rfl, h2, h3, h4⟩ := h
  clear h2 h3 h4
  go_enter Try.func337, Try.ntmps337
  go_wp2_with (go_at_call 249; refine (implAdd_any _ _ _ _).mono ?_; rintro e w' ⟨rfl, rfl⟩)
  go_ret
  exact ⟨rfl, (Below.refl _ _).alloc (Nat.le_refl _) _⟩
set_option maxHeartbeats 400000 in
theorem datPlace_r (cs : List Value) (x : DDatIn) (t : Int) (w : World) (h : FDatIn w cs x) : Calls Try.prog 317 #[.agg cs.toArray, .int .i64 t] w fun e w' => e = .returned (.int .i64 (placeF x.xCum t)) ∧ Below w.heap.size w w' := by
  have HF := Lib.hid h
  obtain ⟨v2, v3, v4, rfl, h2, h3, h4⟩ := h
  clear h2 h3 h4
  have HB := Lib.hid ((Below.refl w.heap.size w).alloc (Nat.le_refl _) (.cells #[.int .i64 x.xStreams, .int .i64 x.xCum, v2, v3, v4] 87))
  go_enter Try.func317, Try.ntmps317
  go_wp2_with fail
  refine (datOldest_r _ x _ (HF.out.below HB.out)).mono ?_
  rintro e w1 ⟨rfl, b1⟩
  have HB := Lib.hid (HB.out.trans (b1.mono HB.out.size))
  clear b1
  go_wp2_with (go_at_call 318; refine (implGap_any _ _ _ _).mono ?_; rintro e w' ⟨rfl, rfl⟩)
  go_ret
  exact ⟨rfl, HB.out⟩
set_option maxHeartbeats 400000 in
theorem l9Has_any (v : Value) (xs : List Int) (t : Int) (w : World) (hv : RdI w v xs) : Calls Try.prog 130 #[v, .int .i64 t] w fun e w' => e = .returned (.bool (decide (t ∈ xs))) ∧ w = w' := by
  obtain ⟨A, c, rfl⟩ := hv.slice
  have hc := hv.cap
  have Hv := Lib.hid hv
  clear hv
  generalize hl : xs.length = n at *
  have Hl := Lib.hid hl
  clear hl
  go_enter Try.func130, Try.ntmps130
  go_wp2
  go_loopw [5] (fun i w1 => ∃ j : Nat, j ≤ n ∧ i = .int .i64 j ∧ w1 = w ∧ UpTo (fun _ u => !decide (u = t)) xs j) (fun i _ => n - (intOf i).toNat)
  case atStart => exact ⟨0, by omega, rfl, rfl, UpTo.zero⟩
  case round =>
    obtain ⟨j, hj, rfl, rfl, hu⟩ := hrel
    have Hu := Lib.hid hu
    clear hu
    by_cases hlt : j < n
    · obtain ⟨ad, hk, rfl, hc'⟩ := Hv.out.at_ hlt
      by_cases h3 : xs[j] = t
      · have H3 := Lib.hid h3
        have h3' : (xs[j] == t) = true := by simpa using h3
        clear h3
        go_wp2
        go_ret
        exact ⟨ret_bool (by symm; rw [decide_eq_true_eq, ← H3.out]; exact List.getElem_mem _), rfl⟩
      · have H3 := Lib.hid h3
        have h3' : (xs[j] == t) = false := by simpa using h3
        clear h3
        go_wp2
        exact ⟨⟨j + 1, by omega, by go_num, by first | rfl | trivial, Hu.out.succ hk (by simpa using H3.out)⟩, by simp [intOf]; omega⟩
    · go_wp2
      go_ret
      refine ⟨ret_bool ?_, rfl⟩
      symm
      rw [decide_eq_false_iff_not]
      intro hm
      obtain ⟨i, hi, he⟩ := List.getElem_of_mem hm
      have := Hu.out i hi (by rw [Hl.out] at hi; omega)
      simp [he] at this
set_option maxHeartbeats 400000 in
theorem datBit_any (n : Nat) (w : World) : Calls Try.prog 272 #[.int .i64 n] w fun e w' => e = .returned (.int .u32 (bvI (BitVec.twoPow 32 n))) ∧ w = w' := by
  have hs : Op.shift .shl .u32 1 .i64 (n : Int) = (pure (.int .u32 (bvI (BitVec.twoPow 32 n))) : Sem Value) := by
    have h0 : ¬ ((n : Int) < 0) := by omega
    unfold Op.shift
    rw [if_neg h0]
    have hb : IntKind.u32.wrap (1 * 2 ^ (min (n : Int).toNat 32)) = bvI (BitVec.twoPow 32 n) := by
      unfold bvI
      rw [Int.toNat_natCast, BitVec.toNat_twoPow, Int.one_mul]
      show (2 ^ (min n 32) : Int) % 4294967296 = _
      rw [Int.natCast_emod, Int.natCast_pow]
      show (2 ^ (min n 32) : Int) % 4294967296 = (2 : Int) ^ n % 4294967296
      rcases Nat.lt_or_ge n 32 with h | h
      · rw [Nat.min_eq_left (by omega)]
      · rw [Nat.min_eq_right h]
        have h1 : (2 : Int) ^ n = (2 : Int) ^ 32 * 2 ^ (n - 32) := by rw [← Int.pow_add]; congr 1; omega
        have h2 : (2 : Int) ^ 32 = 4294967296 := by decide
        rw [h1, h2, Int.mul_emod_right, Int.emod_self]
    show (pure (Value.int .u32 (IntKind.u32.wrap (1 * 2 ^ (min (n : Int).toNat 32)))) : Sem Value) = _
    rw [hb]
  have Hs := Lib.hid hs
  clear hs
  generalize hb : bvI (BitVec.twoPow 32 n) = b at *
  clear hb
  go_enter Try.func272, Try.ntmps272
  have hs := Hs.out
  go_wp2
  go_ret
  exact ⟨rfl, rfl⟩
set_option maxHeartbeats 400000 in
theorem has_any (s : BitVec 32) (n : Nat) (w : World) : Calls Try.prog 274 #[.int .u32 (bvI s), .int .i64 n] w fun e w' => e = .returned (.bool (s.getLsbD n)) ∧ w = w' := by
  go_enter Try.func274, Try.ntmps274
  go_wp2_with (go_at_call 272; refine (datBit_any _ _).mono ?_; rintro e w' ⟨rfl, rfl⟩)
  go_ret
  exact ⟨ret_bool (by rw [bits_and32, bvI_has]), rfl⟩
set_option maxHeartbeats 400000 in
theorem datSeenOf_r (cs : List Value) (x : DDatIn) (w : World) (h : FDatIn w cs x) : Calls Try.prog 198 #[.agg cs.toArray] w fun e w' => e = .returned (.int .u32 (bvI (seenBits x.xCum x.xSeen))) ∧ Below w.heap.size w w' := by
  have HF := Lib.hid h
  obtain ⟨v2, v3, v4, rfl, h2, h3, h4⟩ := h
  obtain ⟨A2, q2, rfl⟩ := h2.slice
  have hc2 := h2.cap
  have H2 := Lib.hid h2
  clear h2 h3 h4
  have hfar : ∀ t w1, Below w.heap.size w w1 → Calls Try.prog 273 #[.agg #[.int .i64 x.xStreams, .int .i64 x.xCum, .slice A2 x.xSeen.length q2, v3, v4], .int .i64 t] w1 fun e w' => e = .returned (.int .i64 (gapF x.xCum t 32)) ∧ Below w1.heap.size w1 w' := fun t w1 hb => datFar_r _ x t w1 (HF.out.below hb)
  generalize hl : x.xSeen.length = n at *
  have Hl := Lib.hid hl
  have Hfar := Lib.hid hfar
  clear hl hfar
  have K := Lib.hid (Blk.new (w := w) (b := w.heap.size) #[.int .i64 x.xStreams, .int .i64 x.xCum, .slice A2 n q2, v3, v4] 87 rfl)
  have HB := Lib.hid ((Below.refl w.heap.size w).alloc (Nat.le_refl _) (.cells #[.int .i64 x.xStreams, .int .i64 x.xCum, .slice A2 n q2, v3, v4] 87))
  go_enter Try.func198, Try.ntmps198
  go_wp2
  go_loopw [3, 9] (fun s i w1 => ∃ j : Nat, j ≤ n ∧ i = .int .i64 j ∧ s = .int .u32 (bvI (seenBits x.xCum (x.xSeen.take j))) ∧ Blk w1 w.heap.size [.int .i64 x.xStreams, .int .i64 x.xCum, .slice A2 n q2, v3, v4] ∧ Below w.heap.size w w1) (fun _ i _ => n - (intOf i).toNat)
  case atStart => exact ⟨0, by omega, rfl, rfl, K.out, HB.out⟩
  case round =>
    obtain ⟨j, hj, rfl, rfl, hk1, hb1⟩ := hrel
    have K1 := Lib.hid hk1
    have HB1 := Lib.hid hb1
    clear hk1 hb1
    by_cases hlt : j < n
    · obtain ⟨ad, hk, rfl, hc'⟩ := (H2.out.below HB1.out).at_ hlt
      have o0 := K1.out.at (i := 0) rfl
      have o1 := K1.out.at (i := 1) rfl
      have o2 := K1.out.at (i := 2) rfl
      have o3 := K1.out.at (i := 3) rfl
      have o4 := K1.out.at (i := 4) rfl
      go_wp2_with fail
      refine (Hfar.out x.xSeen[j] _ HB1.out).mono ?_
      rintro e w2 ⟨rfl, b2⟩
      have K1 := Lib.hid (K1.out.keep b2)
      have HB1 := Lib.hid (HB1.out.trans (b2.mono HB1.out.size))
      clear b2 o0 o1 o2 o3 o4
      obtain ⟨m, hm⟩ := Int.eq_ofNat_of_zero_le (gapF_lo x.xCum x.xSeen[j] 32)
      have hstep : bits .or .u32 (bvI (seenBits x.xCum (x.xSeen.take j))) (bvI (BitVec.twoPow 32 m)) = bvI (seenBits x.xCum (x.xSeen.take (j + 1))) := by
        rw [bits_or32, List.take_succ_eq_append_getElem hk, seenBits_snoc, hm]
        rfl
      have Hstep := Lib.hid hstep
      clear hstep
      rw [hm]
      go_wp2_with (go_at_call 272; refine (datBit_any m _).mono ?_; rintro e w' ⟨rfl, rfl⟩)
      exact ⟨⟨j + 1, by omega, by go_num, congrArg _ Hstep.out, K1.out, HB1.out⟩, by simp [intOf]; omega⟩
    · go_wp2
      go_ret
      refine ⟨?_, HB1.out⟩
      have hj' : x.xSeen.take j = x.xSeen := List.take_of_length_le (by rw [Hl.out]; omega)
      simp only [hj']
      rfl
end Go.Proofs.Ythdjjgbjemaabaa
