/-
  The contracts of ways, third part: PthHeard and PthLost of the program and of the model.
-/
import Derived.Test.YthdjjgbjemaabaaPthB
namespace Go.Proofs.Ythdjjgbjemaabaa
open Go.ChangeShapes Go.WideShapes Go.ChangeAt Go.RowKit
set_option linter.unusedVariables false

set_option maxHeartbeats 400000 in
theorem specHeard_no (a : Int) (on : Bool) (er sr va ro : Int) (ticks : Int) (w : World) (ok : okW a on er sr va ro = false) : Calls Try.prog 18 #[.agg #[.int .i64 a, .bool on, .int .i64 er, .int .i64 sr, .int .i64 va, .int .i64 ro], .int .i64 ticks] w fun e w' => e = .returned (.agg #[.int .i64 0, .bool false, .int .i64 0, .int .i64 0, .int .i64 0, .int .i64 0]) ∧ Below w.heap.size w w' := by
  go_enter Try.func18, Try.ntmps18
  go_wp2_with fail
  refine (specPthOk_any _ _ _ _ _ _ _).mono ?_
  rintro e w1 ⟨rfl, b1⟩
  rw [ok]
  obtain ⟨k0, k1, kb⟩ := twoBlk w #[.int .i64 a, .bool on, .int .i64 er, .int .i64 sr, .int .i64 va, .int .i64 ro] #[.int .i64 0, .bool false, .int .i64 0, .int .i64 0, .int .i64 0, .int .i64 0] 24 24
  have K0 := Lib.hid (k0.keep b1)
  have K1 := Lib.hid (k1.keep b1)
  have HB := Lib.hid (kb.trans (b1.mono kb.size))
  clear k0 k1 kb b1
  have k1 := K1.out
  have rc0 := k1.at (i := 0) rfl
  have rf0 := k1.frozen 0
  have rc1 := k1.at (i := 1) rfl
  have rf1 := k1.frozen 1
  have rc2 := k1.at (i := 2) rfl
  have rf2 := k1.frozen 2
  have rc3 := k1.at (i := 3) rfl
  have rf3 := k1.frozen 3
  have rc4 := k1.at (i := 4) rfl
  have rf4 := k1.frozen 4
  have rc5 := k1.at (i := 5) rfl
  have rf5 := k1.frozen 5
  clear k1
  go_wp2
  refine bodyPost_ret (v := .agg #[.int .i64 0, .bool false, .int .i64 0, .int .i64 0, .int .i64 0, .int .i64 0]) (by simp [results, Try.results18, go_sem, rc0, rc1, rc2, rc3, rc4, rc5]) rfl ⟨rfl, ?_⟩
  have hb := HB.out
  repeat first | with_reducible exact Below.refl _ _ | with_reducible assumption | with_reducible refine Below.setCell ?_ (by simp <;> omega) _ | with_reducible refine Below.alloc ?_ (by simp <;> omega) _ | with_reducible refine Below.drew ?_
set_option maxHeartbeats 400000 in
theorem implHeard_no (a : Int) (on : Bool) (er sr va ro : Int) (ticks : Int) (w : World) (ok : okW a on er sr va ro = false) : Calls Try.prog 16 #[.agg #[.int .i64 a, .bool on, .int .i64 er, .int .i64 sr, .int .i64 va, .int .i64 ro], .int .i64 ticks] w fun e w' => e = .returned (.agg #[.int .i64 0, .bool false, .int .i64 0, .int .i64 0, .int .i64 0, .int .i64 0]) ∧ Below w.heap.size w w' := by
  go_enter Try.func16, Try.ntmps16
  go_wp2_with fail
  refine (implPthOk_any _ _ _ _ _ _ _).mono ?_
  rintro e w1 ⟨rfl, b1⟩
  rw [ok]
  obtain ⟨k0, k1, kb⟩ := twoBlk w #[.int .i64 a, .bool on, .int .i64 er, .int .i64 sr, .int .i64 va, .int .i64 ro] #[.int .i64 0, .bool false, .int .i64 0, .int .i64 0, .int .i64 0, .int .i64 0] 24 24
  have K0 := Lib.hid (k0.keep b1)
  have K1 := Lib.hid (k1.keep b1)
  have HB := Lib.hid (kb.trans (b1.mono kb.size))
  clear k0 k1 kb b1
  have k1 := K1.out
  have rc0 := k1.at (i := 0) rfl
  have rf0 := k1.frozen 0
  have rc1 := k1.at (i := 1) rfl
  have rf1 := k1.frozen 1
  have rc2 := k1.at (i := 2) rfl
  have rf2 := k1.frozen 2
  have rc3 := k1.at (i := 3) rfl
  have rf3 := k1.frozen 3
  have rc4 := k1.at (i := 4) rfl
  have rf4 := k1.frozen 4
  have rc5 := k1.at (i := 5) rfl
  have rf5 := k1.frozen 5
  clear k1
  go_wp2
  refine bodyPost_ret (v := .agg #[.int .i64 0, .bool false, .int .i64 0, .int .i64 0, .int .i64 0, .int .i64 0]) (by simp [results, Try.results16, go_sem, rc0, rc1, rc2, rc3, rc4, rc5]) rfl ⟨rfl, ?_⟩
  have hb := HB.out
  repeat first | with_reducible exact Below.refl _ _ | with_reducible assumption | with_reducible refine Below.setCell ?_ (by simp <;> omega) _ | with_reducible refine Below.alloc ?_ (by simp <;> omega) _ | with_reducible refine Below.drew ?_
set_option maxHeartbeats 400000 in
theorem specLost_no (a : Int) (on : Bool) (er sr va ro : Int) (w : World) (ok : okW a on er sr va ro = false) : Calls Try.prog 19 #[.agg #[.int .i64 a, .bool on, .int .i64 er, .int .i64 sr, .int .i64 va, .int .i64 ro]] w fun e w' => e = .returned (.agg #[.int .i64 0, .bool false, .int .i64 0, .int .i64 0, .int .i64 0, .int .i64 0]) ∧ Below w.heap.size w w' := by
  go_enter Try.func19, Try.ntmps19
  go_wp2_with fail
  refine (specPthOk_any _ _ _ _ _ _ _).mono ?_
  rintro e w1 ⟨rfl, b1⟩
  rw [ok]
  obtain ⟨k0, k1, kb⟩ := twoBlk w #[.int .i64 a, .bool on, .int .i64 er, .int .i64 sr, .int .i64 va, .int .i64 ro] #[.int .i64 0, .bool false, .int .i64 0, .int .i64 0, .int .i64 0, .int .i64 0] 24 24
  have K0 := Lib.hid (k0.keep b1)
  have K1 := Lib.hid (k1.keep b1)
  have HB := Lib.hid (kb.trans (b1.mono kb.size))
  clear k0 k1 kb b1
  have k1 := K1.out
  have rc0 := k1.at (i := 0) rfl
  have rf0 := k1.frozen 0
  have rc1 := k1.at (i := 1) rfl
  have rf1 := k1.frozen 1
  have rc2 := k1.at (i := 2) rfl
  have rf2 := k1.frozen 2
  have rc3 := k1.at (i := 3) rfl
  have rf3 := k1.frozen 3
  have rc4 := k1.at (i := 4) rfl
  have rf4 := k1.frozen 4
  have rc5 := k1.at (i := 5) rfl
  have rf5 := k1.frozen 5
  clear k1
  go_wp2
  refine bodyPost_ret (v := .agg #[.int .i64 0, .bool false, .int .i64 0, .int .i64 0, .int .i64 0, .int .i64 0]) (by simp [results, Try.results19, go_sem, rc0, rc1, rc2, rc3, rc4, rc5]) rfl ⟨rfl, ?_⟩
  have hb := HB.out
  repeat first | with_reducible exact Below.refl _ _ | with_reducible assumption | with_reducible refine Below.setCell ?_ (by simp <;> omega) _ | with_reducible refine Below.alloc ?_ (by simp <;> omega) _ | with_reducible refine Below.drew ?_
set_option maxHeartbeats 400000 in
theorem implLost_no (a : Int) (on : Bool) (er sr va ro : Int) (w : World) (ok : okW a on er sr va ro = false) : Calls Try.prog 17 #[.agg #[.int .i64 a, .bool on, .int .i64 er, .int .i64 sr, .int .i64 va, .int .i64 ro]] w fun e w' => e = .returned (.agg #[.int .i64 0, .bool false, .int .i64 0, .int .i64 0, .int .i64 0, .int .i64 0]) ∧ Below w.heap.size w w' := by
  go_enter Try.func17, Try.ntmps17
  go_wp2_with fail
  refine (implPthOk_any _ _ _ _ _ _ _).mono ?_
  rintro e w1 ⟨rfl, b1⟩
  rw [ok]
  obtain ⟨k0, k1, kb⟩ := twoBlk w #[.int .i64 a, .bool on, .int .i64 er, .int .i64 sr, .int .i64 va, .int .i64 ro] #[.int .i64 0, .bool false, .int .i64 0, .int .i64 0, .int .i64 0, .int .i64 0] 24 24
  have K0 := Lib.hid (k0.keep b1)
  have K1 := Lib.hid (k1.keep b1)
  have HB := Lib.hid (kb.trans (b1.mono kb.size))
  clear k0 k1 kb b1
  have k1 := K1.out
  have rc0 := k1.at (i := 0) rfl
  have rf0 := k1.frozen 0
  have rc1 := k1.at (i := 1) rfl
  have rf1 := k1.frozen 1
  have rc2 := k1.at (i := 2) rfl
  have rf2 := k1.frozen 2
  have rc3 := k1.at (i := 3) rfl
  have rf3 := k1.frozen 3
  have rc4 := k1.at (i := 4) rfl
  have rf4 := k1.frozen 4
  have rc5 := k1.at (i := 5) rfl
  have rf5 := k1.frozen 5
  clear k1
  go_wp2
  refine bodyPost_ret (v := .agg #[.int .i64 0, .bool false, .int .i64 0, .int .i64 0, .int .i64 0, .int .i64 0]) (by simp [results, Try.results17, go_sem, rc0, rc1, rc2, rc3, rc4, rc5]) rfl ⟨rfl, ?_⟩
  have hb := HB.out
  repeat first | with_reducible exact Below.refl _ _ | with_reducible assumption | with_reducible refine Below.setCell ?_ (by simp <;> omega) _ | with_reducible refine Below.alloc ?_ (by simp <;> omega) _ | with_reducible refine Below.drew ?_
set_option maxHeartbeats 400000 in
theorem specHeard_z (a : Int) (on : Bool) (er va ro ticks t r : Int) (w : World) (ok : okW a on er 0 va ro = true) (ht : 0 ≤ t ∧ t ≤ 16) (et : clampI ticks 0 16 = t) (e8 : (8 * t).tdiv 8 = t) (err : clampI (t + 2 * t) 2 16 = r) :
    Calls Try.prog 18 #[.agg #[.int .i64 a, .bool on, .int .i64 er, .int .i64 0, .int .i64 va, .int .i64 ro], .int .i64 ticks] w fun e w' => e = .returned (.agg #[.int .i64 a, .bool true, .int .i64 0, .int .i64 (8 * t), .int .i64 (2 * t), .int .i64 r]) ∧ Below w.heap.size w w' := by
  go_enter Try.func18, Try.ntmps18
  go_wp2_with fail
  refine (specPthOk_any _ _ _ _ _ _ _).mono ?_
  rintro e w1 ⟨rfl, b1⟩
  rw [ok]
  obtain ⟨k0, k1, kb⟩ := twoBlk w #[.int .i64 a, .bool on, .int .i64 er, .int .i64 0, .int .i64 va, .int .i64 ro] #[.int .i64 0, .bool false, .int .i64 0, .int .i64 0, .int .i64 0, .int .i64 0] 24 24
  have K0 := Lib.hid (k0.keep b1)
  have K1 := Lib.hid (k1.keep b1)
  have HB := Lib.hid (kb.trans (b1.mono kb.size))
  clear k0 k1 kb b1
  have k0 := K0.out
  have k1 := K1.out
  have pc0 := k0.at (i := 0) rfl
  have pf0 := k0.frozen 0
  have pc1 := k0.at (i := 1) rfl
  have pf1 := k0.frozen 1
  have pc2 := k0.at (i := 2) rfl
  have pf2 := k0.frozen 2
  have pc3 := k0.at (i := 3) rfl
  have pf3 := k0.frozen 3
  have pc4 := k0.at (i := 4) rfl
  have pf4 := k0.frozen 4
  have pc5 := k0.at (i := 5) rfl
  have pf5 := k0.frozen 5
  have rc0 := k1.at (i := 0) rfl
  have rf0 := k1.frozen 0
  have rc1 := k1.at (i := 1) rfl
  have rf1 := k1.frozen 1
  have rc2 := k1.at (i := 2) rfl
  have rf2 := k1.frozen 2
  have rc3 := k1.at (i := 3) rfl
  have rf3 := k1.frozen 3
  have rc4 := k1.at (i := 4) rfl
  have rf4 := k1.frozen 4
  have rc5 := k1.at (i := 5) rfl
  have rf5 := k1.frozen 5
  clear k0 k1
  go_wp2_with (first | (go_at_call 101; (with_reducible refine (l7Clamp_eq _ _ _ _ _ et).mono ?_); rintro e w' ⟨rfl, rfl⟩) | (go_at_call 101; (with_reducible refine (l7Clamp_eq _ _ _ _ _ err).mono ?_); rintro e w' ⟨rfl, rfl⟩))
  refine bodyPost_ret (v := .agg #[.int .i64 a, .bool true, .int .i64 0, .int .i64 (8 * t), .int .i64 (2 * t), .int .i64 r]) (by simp [results, Try.results18, go_sem, rc0, rc1, rc2, rc3, rc4, rc5]) rfl ⟨rfl, ?_⟩
  have hb := HB.out
  repeat first | with_reducible exact Below.refl _ _ | with_reducible assumption | with_reducible refine Below.setCell ?_ (by simp <;> omega) _ | with_reducible refine Below.alloc ?_ (by simp <;> omega) _ | with_reducible refine Below.drew ?_
theorem l7Far_eq (a b r : Int) (w : World) (h : farI a b = r) (ha : -1000 ≤ a ∧ a ≤ 1000) (hb : -1000 ≤ b ∧ b ≤ 1000) : Calls Try.prog 102 #[.int .i64 a, .int .i64 b] w fun e w' => e = .returned (.int .i64 r) ∧ w' = w := by
  subst h; exact (l7Far_any _ _ _ ha hb).mono (fun e w' h => ⟨h.1, h.2.symm⟩)
theorem l7Clamp_st (n lo hi r : Int) (w : World) (h : clampI n lo hi = r) : Calls Try.prog 101 #[.int .i64 n, .int .i64 lo, .int .i64 hi] w fun e w' => e = .returned (.int .i64 r) ∧ w' = w :=
  (l7Clamp_eq _ _ _ _ _ h).mono (fun e w' h => ⟨h.1, h.2.symm⟩)
theorem pthBetween_st (n lo hi r : Int) (w : World) (h : clampI n lo hi = r) (hlh : lo ≤ hi) : Calls Try.prog 99 #[.int .i64 n, .int .i64 lo, .int .i64 hi] w fun e w' => e = .returned (.int .i64 r) ∧ w' = w :=
  (pthBetween_eq _ _ _ _ _ h hlh).mono (fun e w' h => ⟨h.1, h.2.symm⟩)
set_option maxRecDepth 100000 in
set_option maxHeartbeats 400000 in
theorem specHeard_nz (a : Int) (on : Bool) (er sr va ro ticks t q4 q8 f q r : Int) (w : World) (ok : okW a on er sr va ro = true) (h0 : sr ≠ 0) (ht : 0 ≤ t ∧ t ≤ 16) (et : clampI ticks 0 16 = t) (e4 : va.tdiv 4 = q4) (e8 : sr.tdiv 8 = q8) (ef : farI q8 t = f) (eq : (sr - q8 + t).tdiv 8 = q) (b4 : 0 ≤ q4 ∧ q4 ≤ 16) (b8 : 0 ≤ q8 ∧ q8 ≤ 16) (bf : 0 ≤ f ∧ f ≤ 16) (bv : 0 ≤ va - q4 + f ∧ va - q4 + f ≤ 64) (bs : 0 ≤ sr - q8 + t ∧ sr - q8 + t ≤ 128) (bq : 0 ≤ q ∧ q ≤ 16) (err : clampI (q + (va - q4 + f)) 2 16 = r) :
    Calls Try.prog 18 #[.agg #[.int .i64 a, .bool on, .int .i64 er, .int .i64 sr, .int .i64 va, .int .i64 ro], .int .i64 ticks] w fun e w' => e = .returned (.agg #[.int .i64 a, .bool true, .int .i64 0, .int .i64 (sr - q8 + t), .int .i64 (va - q4 + f), .int .i64 r]) ∧ Below w.heap.size w w' := by
  obtain ⟨-, -, -, hs, hv, -⟩ := okW_iff.1 ok
  go_enter Try.func18, Try.ntmps18
  go_wp2_with fail
  refine (specPthOk_any _ _ _ _ _ _ _).mono ?_
  rintro e w1 ⟨rfl, b1⟩
  rw [ok]
  obtain ⟨k0, k1, kb⟩ := twoBlk w #[.int .i64 a, .bool on, .int .i64 er, .int .i64 sr, .int .i64 va, .int .i64 ro] #[.int .i64 0, .bool false, .int .i64 0, .int .i64 0, .int .i64 0, .int .i64 0] 24 24
  have K0 := Lib.hid (k0.keep b1)
  have K1 := Lib.hid (k1.keep b1)
  have HB := Lib.hid (kb.trans (b1.mono kb.size))
  clear k0 k1 kb b1
  have k0 := K0.out
  have pc0 := k0.at (i := 0) rfl
  have pf0 := k0.frozen 0
  have pc1 := k0.at (i := 1) rfl
  have pf1 := k0.frozen 1
  have pc2 := k0.at (i := 2) rfl
  have pf2 := k0.frozen 2
  have pc3 := k0.at (i := 3) rfl
  have pf3 := k0.frozen 3
  have pc4 := k0.at (i := 4) rfl
  have pf4 := k0.frozen 4
  have pc5 := k0.at (i := 5) rfl
  have pf5 := k0.frozen 5
  clear k0
  go_wp2_with (first | (go_at_call 101; (with_reducible refine (l7Clamp_eq _ _ _ _ _ et).mono ?_); rintro e w' ⟨rfl, rfl⟩))
  generalize hw2 : World.setCell _ _ _ = w2
  have M0 := Lib.hid (show Blk w2 w.heap.size [.int .i64 a, .bool true, .int .i64 0, .int .i64 sr, .int .i64 va, .int .i64 ro] by subst hw2; exact (K0.out.set (i := 2) (by simp)).set (i := 1) (by simp))
  have M1 := Lib.hid (show Blk w2 (w.heap.size + 1) [.int .i64 0, .bool false, .int .i64 0, .int .i64 0, .int .i64 0, .int .i64 0] by subst hw2; exact (K1.out.far (by omega)).far (by omega))
  have MB := Lib.hid (show Below w.heap.size w w2 by subst hw2; exact (HB.out.setCell (Nat.le_refl _) _).setCell (Nat.le_refl _) _)
  clear hw2 K0 K1 HB
  clear pc0 pc1 pc2 pc3 pc4 pc5 pf0 pf1 pf2 pf3 pf4 pf5
  have k0 := M0.out
  have k1 := M1.out
  have pc0 := k0.at (i := 0) rfl
  have pf0 := k0.frozen 0
  have pc1 := k0.at (i := 1) rfl
  have pf1 := k0.frozen 1
  have pc2 := k0.at (i := 2) rfl
  have pf2 := k0.frozen 2
  have pc3 := k0.at (i := 3) rfl
  have pf3 := k0.frozen 3
  have pc4 := k0.at (i := 4) rfl
  have pf4 := k0.frozen 4
  have pc5 := k0.at (i := 5) rfl
  have pf5 := k0.frozen 5
  have rc0 := k1.at (i := 0) rfl
  have rf0 := k1.frozen 0
  have rc1 := k1.at (i := 1) rfl
  have rf1 := k1.frozen 1
  have rc2 := k1.at (i := 2) rfl
  have rf2 := k1.frozen 2
  have rc3 := k1.at (i := 3) rfl
  have rf3 := k1.frozen 3
  have rc4 := k1.at (i := 4) rfl
  have rf4 := k1.frozen 4
  have rc5 := k1.at (i := 5) rfl
  have rf5 := k1.frozen 5
  clear k0 k1
  have k4 : IntKind.i64.wrap q4 = q4 := i64_in (by omega)
  have k8 : IntKind.i64.wrap q8 = q8 := i64_in (by omega)
  have k5 : IntKind.i64.wrap (va - q4) = va - q4 := i64_in (by omega)
  have k6 : IntKind.i64.wrap (va - q4 + f) = va - q4 + f := i64_in (by omega)
  have ev : clampI (va - q4 + f) 0 64 = va - q4 + f := clampI_in bv
  have es : clampI (sr - q8 + t) 0 128 = sr - q8 + t := clampI_in bs
  go_still_tail 14, (by kernel_rfl)
  still_call (l7Far_eq _ _ _ _ ef (by omega) (by omega))
  repeat still_step
  still_call (l7Clamp_st _ _ _ _ _ ev)
  repeat still_step
  refine wpStill_nil ?_
  go_wp2_with (first | (go_at_call 101; (with_reducible refine (l7Clamp_eq _ _ _ _ _ es).mono ?_); rintro e w' ⟨rfl, rfl⟩) | (go_at_call 101; (with_reducible refine (l7Clamp_eq _ _ _ _ _ err).mono ?_); rintro e w' ⟨rfl, rfl⟩))
  refine bodyPost_ret (v := .agg #[.int .i64 a, .bool true, .int .i64 0, .int .i64 (sr - q8 + t), .int .i64 (va - q4 + f), .int .i64 r]) (by simp [results, Try.results18, go_sem, rc0, rc1, rc2, rc3, rc4, rc5]) rfl ⟨rfl, ?_⟩
  have hb := MB.out
  repeat first | with_reducible exact Below.refl _ _ | with_reducible assumption | with_reducible refine Below.setCell ?_ (by simp <;> omega) _ | with_reducible refine Below.alloc ?_ (by simp <;> omega) _ | with_reducible refine Below.drew ?_
set_option maxRecDepth 100000 in
set_option maxHeartbeats 400000 in
theorem implHeard_yes (a : Int) (on : Bool) (er sr va ro : Int) (ticks t s v r : Int) (w : World) (ok : okW a on er sr va ro = true) (ht : 0 ≤ t ∧ t ≤ 16) (et : clampI ticks 0 16 = t) (H : HeardC 98 sr va ro t s v r) :
    Calls Try.prog 16 #[.agg #[.int .i64 a, .bool on, .int .i64 er, .int .i64 sr, .int .i64 va, .int .i64 ro], .int .i64 ticks] w fun e w' => e = .returned (.agg #[.int .i64 a, .bool true, .int .i64 0, .int .i64 s, .int .i64 v, .int .i64 r]) ∧ Below w.heap.size w w' := by
  have HH := Lib.hid H
  clear H
  go_enter Try.func16, Try.ntmps16
  go_wp2_with fail
  refine (implPthOk_any _ _ _ _ _ _ _).mono ?_
  rintro e w1 ⟨rfl, b1⟩
  rw [ok]
  obtain ⟨k0, k1, kb⟩ := twoBlk w #[.int .i64 a, .bool on, .int .i64 er, .int .i64 sr, .int .i64 va, .int .i64 ro] #[.int .i64 0, .bool false, .int .i64 0, .int .i64 0, .int .i64 0, .int .i64 0] 24 24
  have K0 := Lib.hid (k0.keep b1)
  have K1 := Lib.hid (k1.keep b1)
  have HB := Lib.hid (kb.trans (b1.mono kb.size))
  clear k0 k1 kb b1
  have k0 := K0.out
  have pc0 := k0.at (i := 0) rfl
  have pf0 := k0.frozen 0
  have pc1 := k0.at (i := 1) rfl
  have pf1 := k0.frozen 1
  have pc2 := k0.at (i := 2) rfl
  have pf2 := k0.frozen 2
  have pc3 := k0.at (i := 3) rfl
  have pf3 := k0.frozen 3
  have pc4 := k0.at (i := 4) rfl
  have pf4 := k0.frozen 4
  have pc5 := k0.at (i := 5) rfl
  have pf5 := k0.frozen 5
  clear k0
  go_wp2_with fail
  refine (pthOf_any _ _ _ _ _ _ _).mono ?_
  rintro e w2 ⟨rfl, b2⟩
  clear pc0 pc1 pc2 pc3 pc4 pc5 pf0 pf1 pf2 pf3 pf4 pf5
  have K2 := Lib.hid (K1.out.keep b2)
  have HB2 := Lib.hid (HB.out.trans (b2.mono HB.out.size))
  have Z2 := Lib.hid K2.out.lt
  clear K0 K1 HB b2
  go_wp2_with fail
  generalize hw3 : World.alloc w2 _ = w3
  have M0 := Lib.hid (show Blk w3 w2.heap.size [.int .i64 sr, .int .i64 va, .int .i64 ro, .int .i64 a, .int .i64 0] by subst hw3; exact Blk.new #[.int .i64 sr, .int .i64 va, .int .i64 ro, .int .i64 a, .int .i64 0] 143 rfl)
  have M1 := Lib.hid (show Blk w3 (w.heap.size + 1) [.int .i64 0, .bool false, .int .i64 0, .int .i64 0, .int .i64 0, .int .i64 0] by subst hw3; exact K2.out.alloc _)
  have MB := Lib.hid (show Below w.heap.size w w3 by subst hw3; exact HB2.out.alloc (HB2.out.size) _)
  have N0 := Lib.hid (show w2.heap.size ≠ w.heap.size + 1 by have := Z2.out; omega)
  clear hw3 K2 HB2
  have k0 := M0.out
  have pc0 := k0.at (i := 0) rfl
  have pf0 := k0.frozen 0
  have pc1 := k0.at (i := 1) rfl
  have pf1 := k0.frozen 1
  have pc2 := k0.at (i := 2) rfl
  have pf2 := k0.frozen 2
  have pc3 := k0.at (i := 3) rfl
  have pf3 := k0.frozen 3
  have pc4 := k0.at (i := 4) rfl
  have pf4 := k0.frozen 4
  clear k0
  go_still_tail 4, (by kernel_rfl)
  still_call (pthBetween_st _ _ _ _ _ et (by omega))
  refine wpStill_nil ?_
  go_wp2_with fail
  refine (HH.out _).mono ?_
  rintro e w4 ⟨rfl, b4⟩
  clear pc0 pc1 pc2 pc3 pc4 pf0 pf1 pf2 pf3 pf4
  have M0 := Lib.hid (M0.out.drew.keep b4)
  have M1 := Lib.hid (M1.out.drew.keep b4)
  have MB := Lib.hid (MB.out.drew.trans (b4.mono MB.out.size))
  clear b4
  have k0 := M0.out
  have pc0 := k0.at (i := 0) rfl
  have pf0 := k0.frozen 0
  have pc1 := k0.at (i := 1) rfl
  have pf1 := k0.frozen 1
  have pc2 := k0.at (i := 2) rfl
  have pf2 := k0.frozen 2
  have pc3 := k0.at (i := 3) rfl
  have pf3 := k0.frozen 3
  have pc4 := k0.at (i := 4) rfl
  have pf4 := k0.frozen 4
  clear k0
  go_wp2_with fail
  refine (way_any _ _ _ _ _ _).mono ?_
  rintro e w5 ⟨rfl, b5⟩
  clear pc0 pc1 pc2 pc3 pc4 pf0 pf1 pf2 pf3 pf4
  have M1 := Lib.hid ((((M1.out.far N0.out).far N0.out).far N0.out).keep b5)
  have MB := Lib.hid ((((MB.out.setCell (by have := Z2.out; simp; omega) _).setCell (by have := Z2.out; simp; omega) _).setCell (by have := Z2.out; simp; omega) _).trans (b5.mono (by simpa [World.setCell] using MB.out.size)))
  clear b5
  have k1 := M1.out
  have rc0 := k1.at (i := 0) rfl
  have rf0 := k1.frozen 0
  have rc1 := k1.at (i := 1) rfl
  have rf1 := k1.frozen 1
  have rc2 := k1.at (i := 2) rfl
  have rf2 := k1.frozen 2
  have rc3 := k1.at (i := 3) rfl
  have rf3 := k1.frozen 3
  have rc4 := k1.at (i := 4) rfl
  have rf4 := k1.frozen 4
  have rc5 := k1.at (i := 5) rfl
  have rf5 := k1.frozen 5
  clear k1
  go_wp2
  refine bodyPost_ret (v := .agg #[.int .i64 a, .bool true, .int .i64 0, .int .i64 s, .int .i64 v, .int .i64 r]) (by simp [results, Try.results16, go_sem, rc0, rc1, rc2, rc3, rc4, rc5]) rfl ⟨rfl, ?_⟩
  have hb := MB.out
  repeat first | with_reducible exact Below.refl _ _ | with_reducible assumption | with_reducible refine Below.setCell ?_ (by simp <;> omega) _ | with_reducible refine Below.alloc ?_ (by simp <;> omega) _ | with_reducible refine Below.drew ?_
set_option maxRecDepth 100000 in
set_option maxHeartbeats 400000 in
theorem specLost_yes (a : Int) (on : Bool) (er sr va ro : Int) (e' r' : Int) (w : World) (ok : okW a on er sr va ro = true) (ee : clampI (er + 1) 0 3 = e') (e2 : clampI (2 * ro) 2 16 = r') :
    Calls Try.prog 19 #[.agg #[.int .i64 a, .bool on, .int .i64 er, .int .i64 sr, .int .i64 va, .int .i64 ro]] w fun e w' => e = .returned (.agg #[.int .i64 a, .bool (decide (e' ≤ 2)), .int .i64 e', .int .i64 sr, .int .i64 va, .int .i64 r']) ∧ Below w.heap.size w w' := by
  obtain ⟨-, hee, -, -, -, hro⟩ := okW_iff.1 ok
  go_enter Try.func19, Try.ntmps19
  go_wp2_with fail
  refine (specPthOk_any _ _ _ _ _ _ _).mono ?_
  rintro e w1 ⟨rfl, b1⟩
  rw [ok]
  obtain ⟨k0, k1, kb⟩ := twoBlk w #[.int .i64 a, .bool on, .int .i64 er, .int .i64 sr, .int .i64 va, .int .i64 ro] #[.int .i64 0, .bool false, .int .i64 0, .int .i64 0, .int .i64 0, .int .i64 0] 24 24
  have K0 := Lib.hid (k0.keep b1)
  have K1 := Lib.hid (k1.keep b1)
  have HB := Lib.hid (kb.trans (b1.mono kb.size))
  clear k0 k1 kb b1
  have k0 := K0.out
  have k1 := K1.out
  have pc0 := k0.at (i := 0) rfl
  have pf0 := k0.frozen 0
  have pc1 := k0.at (i := 1) rfl
  have pf1 := k0.frozen 1
  have pc2 := k0.at (i := 2) rfl
  have pf2 := k0.frozen 2
  have pc3 := k0.at (i := 3) rfl
  have pf3 := k0.frozen 3
  have pc4 := k0.at (i := 4) rfl
  have pf4 := k0.frozen 4
  have pc5 := k0.at (i := 5) rfl
  have pf5 := k0.frozen 5
  have rc0 := k1.at (i := 0) rfl
  have rf0 := k1.frozen 0
  have rc1 := k1.at (i := 1) rfl
  have rf1 := k1.frozen 1
  have rc2 := k1.at (i := 2) rfl
  have rf2 := k1.frozen 2
  have rc3 := k1.at (i := 3) rfl
  have rf3 := k1.frozen 3
  have rc4 := k1.at (i := 4) rfl
  have rf4 := k1.frozen 4
  have rc5 := k1.at (i := 5) rfl
  have rf5 := k1.frozen 5
  clear k0 k1
  go_wp2_with (first | (go_at_call 101; (with_reducible refine (l7Clamp_eq _ _ _ _ _ ee).mono ?_); rintro e w' ⟨rfl, rfl⟩) | (go_at_call 101; (with_reducible refine (l7Clamp_eq _ _ _ _ _ e2).mono ?_); rintro e w' ⟨rfl, rfl⟩))
  refine bodyPost_ret (v := .agg #[.int .i64 a, .bool (decide (e' ≤ 2)), .int .i64 e', .int .i64 sr, .int .i64 va, .int .i64 r']) (by simp [results, Try.results19, go_sem, rc0, rc1, rc2, rc3, rc4, rc5]) rfl ⟨rfl, ?_⟩
  have hb := HB.out
  repeat first | with_reducible exact Below.refl _ _ | with_reducible assumption | with_reducible refine Below.setCell ?_ (by simp <;> omega) _ | with_reducible refine Below.alloc ?_ (by simp <;> omega) _ | with_reducible refine Below.drew ?_
set_option maxRecDepth 100000 in
set_option maxHeartbeats 1000000 in
theorem implLost_yes (a : Int) (on : Bool) (er sr va ro : Int) (e' r' : Int) (w : World) (ok : okW a on er sr va ro = true) (ee : clampI (er + 1) 0 3 = e') (e2 : clampI (2 * ro) 2 16 = r') :
    Calls Try.prog 17 #[.agg #[.int .i64 a, .bool on, .int .i64 er, .int .i64 sr, .int .i64 va, .int .i64 ro]] w fun e w' => e = .returned (.agg #[.int .i64 a, .bool (decide (e' ≤ 2)), .int .i64 e', .int .i64 sr, .int .i64 va, .int .i64 r']) ∧ Below w.heap.size w w' := by
  obtain ⟨-, hee, -, -, -, hro⟩ := okW_iff.1 ok
  have h3 : (er + 1 ≤ 3 ∧ er + 1 = e') ∨ (3 < er + 1 ∧ 3 = e') := by have := clampI_cases (er + 1) 0 3 (by omega); omega
  have h16 : (2 * ro ≤ 16 ∧ 2 * ro = r') ∨ (16 < 2 * ro ∧ 16 = r') := by have := clampI_cases (2 * ro) 2 16 (by omega); omega
  clear ee e2
  rcases h3 with ⟨h3, rfl⟩ | ⟨h3, rfl⟩ <;> rcases h16 with ⟨h16, rfl⟩ | ⟨h16, rfl⟩
  all_goals
    go_enter Try.func17, Try.ntmps17
    go_wp2_with fail
    refine (implPthOk_any _ _ _ _ _ _ _).mono ?_
    rintro e w1 ⟨rfl, b1⟩
    rw [ok]
    obtain ⟨k0, k1, kb⟩ := twoBlk w #[.int .i64 a, .bool on, .int .i64 er, .int .i64 sr, .int .i64 va, .int .i64 ro] #[.int .i64 0, .bool false, .int .i64 0, .int .i64 0, .int .i64 0, .int .i64 0] 24 24
    have K0 := Lib.hid (k0.keep b1)
    have K1 := Lib.hid (k1.keep b1)
    have HB := Lib.hid (kb.trans (b1.mono kb.size))
    clear k0 k1 kb b1
    have k0 := K0.out
    have pc0 := k0.at (i := 0) rfl
    have pf0 := k0.frozen 0
    have pc1 := k0.at (i := 1) rfl
    have pf1 := k0.frozen 1
    have pc2 := k0.at (i := 2) rfl
    have pf2 := k0.frozen 2
    have pc3 := k0.at (i := 3) rfl
    have pf3 := k0.frozen 3
    have pc4 := k0.at (i := 4) rfl
    have pf4 := k0.frozen 4
    have pc5 := k0.at (i := 5) rfl
    have pf5 := k0.frozen 5
    clear k0
    go_wp2_with fail
    refine (pthOf_any _ _ _ _ _ _ _).mono ?_
    rintro e w2 ⟨rfl, b2⟩
    clear pc0 pc1 pc2 pc3 pc4 pc5 pf0 pf1 pf2 pf3 pf4 pf5
    have K2 := Lib.hid (K1.out.keep b2)
    have HB2 := Lib.hid (HB.out.trans (b2.mono HB.out.size))
    clear K0 K1 HB b2
    go_wp2_with fail
    refine (way_any _ _ _ _ _ _).mono ?_
    rintro e w5 ⟨rfl, b5⟩
    have M1 := Lib.hid ((K2.out.alloc _).keep b5)
    have MB := Lib.hid ((HB2.out.alloc (HB2.out.size) _).trans (b5.mono (by have := HB2.out.size; simp; omega)))
    clear b5
    have k1 := M1.out
    have rc0 := k1.at (i := 0) rfl
    have rf0 := k1.frozen 0
    have rc1 := k1.at (i := 1) rfl
    have rf1 := k1.frozen 1
    have rc2 := k1.at (i := 2) rfl
    have rf2 := k1.frozen 2
    have rc3 := k1.at (i := 3) rfl
    have rf3 := k1.frozen 3
    have rc4 := k1.at (i := 4) rfl
    have rf4 := k1.frozen 4
    have rc5 := k1.at (i := 5) rfl
    have rf5 := k1.frozen 5
    clear k1
    go_wp2
    refine bodyPost_ret (v := .agg #[.int .i64 a, .bool _, .int .i64 _, .int .i64 sr, .int .i64 va, .int .i64 _]) (by simp [results, Try.results17, go_sem, rc0, rc1, rc2, rc3, rc4, rc5]) rfl ⟨rfl, ?_⟩
    have hb := MB.out
    repeat first | with_reducible exact Below.refl _ _ | with_reducible assumption | with_reducible refine Below.setCell ?_ (by simp <;> omega) _ | with_reducible refine Below.alloc ?_ (by simp <;> omega) _ | with_reducible refine Below.drew ?_
end Go.Proofs.Ythdjjgbjemaabaa
