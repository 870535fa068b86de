/-
  Is an end of a line ok? What the program asks of each state. (Written by wip/tools/genascok.py.)
-/
import Derived.Test.YthdjjgbjemaabaaAscOkS
import Derived.Test.YthdjjgbjemaabaaSteady
import Derived.Test.YthdjjgbjemaabaaAllI
import Derived.BigQuiet
namespace Go.Proofs.Ythdjjgbjemaabaa
open Go.ChangeShapes Go.WideShapes Go.ChangeAt Go.RowKit
set_option linter.unusedVariables false
set_option linter.unusedSimpArgs false


def puF (pt ps sm : Int) (n : Nat) : Bool := decide (pt = 0) && (decide (ps = 0) && (decide (sm = 0) && decide (n = 0)))
def pkF (wi pt ps sm : Int) : Bool := inB pt 1 4294967295 && (inB ps 0 4294967295 && inB sm 1 wi)
def ncF (tr le : Int) : Bool := decide (tr = 0) && decide (le = 0)
def ieF (wi la ta pt ts ps sm : Int) (n : Nat) : Bool := inB ta 1 4294967295 && (decide (la = ta) && (inB ts 0 4294967295 && (pkF wi pt ps sm && decide (n = 0))))
def beF (la ta ts tr le : Int) : Bool := tagA la ta && (inB ts 0 4294967295 && timedA tr le)
set_option maxHeartbeats 400000 in
theorem frmTag_any (n : Int) (w : World) : Calls Try.prog 277 #[.int .i64 n] w fun e w' => e = .returned (.bool (inB n 1 4294967295)) ∧ w = w' := by
  go_enter Try.func277, Try.ntmps277
  go_wp2_with (go_at_call 104; refine (frmIn_any _ _ _ _).mono ?_; rintro e w' ⟨rfl, rfl⟩)
  go_ret
  exact ⟨rfl, rfl⟩
set_option maxRecDepth 100000 in
set_option maxHeartbeats 2000000 in
theorem ascPeerUnknown_any (me pe se wi la st ta pt ts ps sm : Int) (A : Option Addr) (n c : Nat) (tr le : Int) (hc : n ≤ c ∧ c ≤ 9223372036854775807) (w : World) : Calls Try.prog 327 #[.agg #[.int .i64 me, .int .i64 pe, .int .i64 se, .int .i64 wi, .int .i64 la, .int .i64 st, .int .i64 ta, .int .i64 pt, .int .i64 ts, .int .i64 ps, .int .i64 sm, .slice A n c, .int .i64 tr, .int .i64 le]] w fun e w' => e = .returned (.bool (puF pt ps sm n)) ∧ Below w.heap.size w w' := by
  have K := Lib.hid (Blk.new (w := w) (b := w.heap.size) #[.int .i64 me, .int .i64 pe, .int .i64 se, .int .i64 wi, .int .i64 la, .int .i64 st, .int .i64 ta, .int .i64 pt, .int .i64 ts, .int .i64 ps, .int .i64 sm, .slice A n c, .int .i64 tr, .int .i64 le] 67 rfl)
  have HB := Lib.hid ((Below.refl w.heap.size w).alloc (Nat.le_refl _) (.cells #[.int .i64 me, .int .i64 pe, .int .i64 se, .int .i64 wi, .int .i64 la, .int .i64 st, .int .i64 ta, .int .i64 pt, .int .i64 ts, .int .i64 ps, .int .i64 sm, .slice A n c, .int .i64 tr, .int .i64 le] 67))
  have k0 := K.out.at (i := 0) rfl
  have k1 := K.out.at (i := 1) rfl
  have k2 := K.out.at (i := 2) rfl
  have k3 := K.out.at (i := 3) rfl
  have k4 := K.out.at (i := 4) rfl
  have k5 := K.out.at (i := 5) rfl
  have k6 := K.out.at (i := 6) rfl
  have k7 := K.out.at (i := 7) rfl
  have k8 := K.out.at (i := 8) rfl
  have k9 := K.out.at (i := 9) rfl
  have k10 := K.out.at (i := 10) rfl
  have k11 := K.out.at (i := 11) rfl
  have k12 := K.out.at (i := 12) rfl
  have k13 := K.out.at (i := 13) rfl
  all_goals
    go_enter Try.func327, Try.ntmps327
    go_wp2
    all_goals
      go_ret
      refine ⟨ret_bool ?_, by first | exact HB.out | (repeat first | with_reducible exact Below.refl _ _ | with_reducible assumption | with_reducible refine Below.setCell ?_ (by simp <;> omega) _ | with_reducible refine Below.alloc ?_ (by simp <;> omega) _ | with_reducible refine Below.drew ?_)⟩
      · clear K HB k0 k1 k2 k3 k4 k5 k6 k7 k8 k9 k10 k11 k12 k13
        first | (simp [puF, *]; done) | (rw [Bool.eq_iff_iff]; simp [puF, *]; done) | (rw [Bool.eq_iff_iff]; simp [puF, *]; omega)
set_option maxRecDepth 100000 in
set_option maxHeartbeats 2000000 in
theorem ascNotCounting_any (me pe se wi la st ta pt ts ps sm : Int) (A : Option Addr) (n c : Nat) (tr le : Int) (hc : n ≤ c ∧ c ≤ 9223372036854775807) (w : World) : Calls Try.prog 328 #[.agg #[.int .i64 me, .int .i64 pe, .int .i64 se, .int .i64 wi, .int .i64 la, .int .i64 st, .int .i64 ta, .int .i64 pt, .int .i64 ts, .int .i64 ps, .int .i64 sm, .slice A n c, .int .i64 tr, .int .i64 le]] w fun e w' => e = .returned (.bool (ncF tr le)) ∧ Below w.heap.size w w' := by
  have K := Lib.hid (Blk.new (w := w) (b := w.heap.size) #[.int .i64 me, .int .i64 pe, .int .i64 se, .int .i64 wi, .int .i64 la, .int .i64 st, .int .i64 ta, .int .i64 pt, .int .i64 ts, .int .i64 ps, .int .i64 sm, .slice A n c, .int .i64 tr, .int .i64 le] 67 rfl)
  have HB := Lib.hid ((Below.refl w.heap.size w).alloc (Nat.le_refl _) (.cells #[.int .i64 me, .int .i64 pe, .int .i64 se, .int .i64 wi, .int .i64 la, .int .i64 st, .int .i64 ta, .int .i64 pt, .int .i64 ts, .int .i64 ps, .int .i64 sm, .slice A n c, .int .i64 tr, .int .i64 le] 67))
  have k0 := K.out.at (i := 0) rfl
  have k1 := K.out.at (i := 1) rfl
  have k2 := K.out.at (i := 2) rfl
  have k3 := K.out.at (i := 3) rfl
  have k4 := K.out.at (i := 4) rfl
  have k5 := K.out.at (i := 5) rfl
  have k6 := K.out.at (i := 6) rfl
  have k7 := K.out.at (i := 7) rfl
  have k8 := K.out.at (i := 8) rfl
  have k9 := K.out.at (i := 9) rfl
  have k10 := K.out.at (i := 10) rfl
  have k11 := K.out.at (i := 11) rfl
  have k12 := K.out.at (i := 12) rfl
  have k13 := K.out.at (i := 13) rfl
  all_goals
    go_enter Try.func328, Try.ntmps328
    go_wp2
    all_goals
      go_ret
      refine ⟨ret_bool ?_, by first | exact HB.out | (repeat first | with_reducible exact Below.refl _ _ | with_reducible assumption | with_reducible refine Below.setCell ?_ (by simp <;> omega) _ | with_reducible refine Below.alloc ?_ (by simp <;> omega) _ | with_reducible refine Below.drew ?_)⟩
      · clear K HB k0 k1 k2 k3 k4 k5 k6 k7 k8 k9 k10 k11 k12 k13
        first | (simp [ncF, *]; done) | (rw [Bool.eq_iff_iff]; simp [ncF, *]; done) | (rw [Bool.eq_iff_iff]; simp [ncF, *]; omega)
set_option maxRecDepth 100000 in
set_option maxHeartbeats 2000000 in
theorem ascCounting_any (me pe se wi la st ta pt ts ps sm : Int) (A : Option Addr) (n c : Nat) (tr le : Int) (hc : n ≤ c ∧ c ≤ 9223372036854775807) (w : World) : Calls Try.prog 333 #[.agg #[.int .i64 me, .int .i64 pe, .int .i64 se, .int .i64 wi, .int .i64 la, .int .i64 st, .int .i64 ta, .int .i64 pt, .int .i64 ts, .int .i64 ps, .int .i64 sm, .slice A n c, .int .i64 tr, .int .i64 le]] w fun e w' => e = .returned (.bool (timedA tr le)) ∧ Below w.heap.size w w' := by
  have K := Lib.hid (Blk.new (w := w) (b := w.heap.size) #[.int .i64 me, .int .i64 pe, .int .i64 se, .int .i64 wi, .int .i64 la, .int .i64 st, .int .i64 ta, .int .i64 pt, .int .i64 ts, .int .i64 ps, .int .i64 sm, .slice A n c, .int .i64 tr, .int .i64 le] 67 rfl)
  have HB := Lib.hid ((Below.refl w.heap.size w).alloc (Nat.le_refl _) (.cells #[.int .i64 me, .int .i64 pe, .int .i64 se, .int .i64 wi, .int .i64 la, .int .i64 st, .int .i64 ta, .int .i64 pt, .int .i64 ts, .int .i64 ps, .int .i64 sm, .slice A n c, .int .i64 tr, .int .i64 le] 67))
  have k0 := K.out.at (i := 0) rfl
  have k1 := K.out.at (i := 1) rfl
  have k2 := K.out.at (i := 2) rfl
  have k3 := K.out.at (i := 3) rfl
  have k4 := K.out.at (i := 4) rfl
  have k5 := K.out.at (i := 5) rfl
  have k6 := K.out.at (i := 6) rfl
  have k7 := K.out.at (i := 7) rfl
  have k8 := K.out.at (i := 8) rfl
  have k9 := K.out.at (i := 9) rfl
  have k10 := K.out.at (i := 10) rfl
  have k11 := K.out.at (i := 11) rfl
  have k12 := K.out.at (i := 12) rfl
  have k13 := K.out.at (i := 13) rfl
  all_goals
    go_enter Try.func333, Try.ntmps333
    go_wp2_with (first | (go_at_call 104; refine (frmIn_any _ _ _ _).mono ?_; rintro e w' ⟨rfl, rfl⟩))
    all_goals
      go_ret
      refine ⟨ret_bool ?_, by first | exact HB.out | (repeat first | with_reducible exact Below.refl _ _ | with_reducible assumption | with_reducible refine Below.setCell ?_ (by simp <;> omega) _ | with_reducible refine Below.alloc ?_ (by simp <;> omega) _ | with_reducible refine Below.drew ?_)⟩
      · clear K HB k0 k1 k2 k3 k4 k5 k6 k7 k8 k9 k10 k11 k12 k13
        first | (simp [timedA, *]; done) | (rw [Bool.eq_iff_iff]; simp [timedA, *]; done) | (rw [Bool.eq_iff_iff]; simp [timedA, *]; omega)
set_option maxRecDepth 100000 in
set_option maxHeartbeats 2000000 in
theorem ascNewTag_any (me pe se wi la st ta pt ts ps sm : Int) (A : Option Addr) (n c : Nat) (tr le : Int) (hc : n ≤ c ∧ c ≤ 9223372036854775807) (t : Int) (w : World) : Calls Try.prog 161 #[.agg #[.int .i64 me, .int .i64 pe, .int .i64 se, .int .i64 wi, .int .i64 la, .int .i64 st, .int .i64 ta, .int .i64 pt, .int .i64 ts, .int .i64 ps, .int .i64 sm, .slice A n c, .int .i64 tr, .int .i64 le], .int .i64 t] w fun e w' => e = .returned (.bool (tagA la t)) ∧ Below w.heap.size w w' := by
  have K := Lib.hid (Blk.new (w := w) (b := w.heap.size) #[.int .i64 me, .int .i64 pe, .int .i64 se, .int .i64 wi, .int .i64 la, .int .i64 st, .int .i64 ta, .int .i64 pt, .int .i64 ts, .int .i64 ps, .int .i64 sm, .slice A n c, .int .i64 tr, .int .i64 le] 67 rfl)
  have HB := Lib.hid ((Below.refl w.heap.size w).alloc (Nat.le_refl _) (.cells #[.int .i64 me, .int .i64 pe, .int .i64 se, .int .i64 wi, .int .i64 la, .int .i64 st, .int .i64 ta, .int .i64 pt, .int .i64 ts, .int .i64 ps, .int .i64 sm, .slice A n c, .int .i64 tr, .int .i64 le] 67))
  have k0 := K.out.at (i := 0) rfl
  have k1 := K.out.at (i := 1) rfl
  have k2 := K.out.at (i := 2) rfl
  have k3 := K.out.at (i := 3) rfl
  have k4 := K.out.at (i := 4) rfl
  have k5 := K.out.at (i := 5) rfl
  have k6 := K.out.at (i := 6) rfl
  have k7 := K.out.at (i := 7) rfl
  have k8 := K.out.at (i := 8) rfl
  have k9 := K.out.at (i := 9) rfl
  have k10 := K.out.at (i := 10) rfl
  have k11 := K.out.at (i := 11) rfl
  have k12 := K.out.at (i := 12) rfl
  have k13 := K.out.at (i := 13) rfl
  all_goals
    go_enter Try.func161, Try.ntmps161
    go_wp2_with (first | (go_at_call 151; refine (frmLong_any _ _).mono ?_; rintro e w' ⟨rfl, rfl⟩))
    all_goals
      go_ret
      refine ⟨ret_bool ?_, by first | exact HB.out | (repeat first | with_reducible exact Below.refl _ _ | with_reducible assumption | with_reducible refine Below.setCell ?_ (by simp <;> omega) _ | with_reducible refine Below.alloc ?_ (by simp <;> omega) _ | with_reducible refine Below.drew ?_)⟩
      · clear K HB k0 k1 k2 k3 k4 k5 k6 k7 k8 k9 k10 k11 k12 k13
        first | (simp [tagA, *]; done) | (rw [Bool.eq_iff_iff]; simp [tagA, *]; done) | (rw [Bool.eq_iff_iff]; simp [tagA, *]; omega)
set_option maxRecDepth 100000 in
set_option maxHeartbeats 2000000 in
theorem ascPeerKnown_any (me pe se wi la st ta pt ts ps sm : Int) (A : Option Addr) (n c : Nat) (tr le : Int) (hc : n ≤ c ∧ c ≤ 9223372036854775807) (w : World) : Calls Try.prog 330 #[.agg #[.int .i64 me, .int .i64 pe, .int .i64 se, .int .i64 wi, .int .i64 la, .int .i64 st, .int .i64 ta, .int .i64 pt, .int .i64 ts, .int .i64 ps, .int .i64 sm, .slice A n c, .int .i64 tr, .int .i64 le]] w fun e w' => e = .returned (.bool (pkF wi pt ps sm)) ∧ Below w.heap.size w w' := by
  have K := Lib.hid (Blk.new (w := w) (b := w.heap.size) #[.int .i64 me, .int .i64 pe, .int .i64 se, .int .i64 wi, .int .i64 la, .int .i64 st, .int .i64 ta, .int .i64 pt, .int .i64 ts, .int .i64 ps, .int .i64 sm, .slice A n c, .int .i64 tr, .int .i64 le] 67 rfl)
  have HB := Lib.hid ((Below.refl w.heap.size w).alloc (Nat.le_refl _) (.cells #[.int .i64 me, .int .i64 pe, .int .i64 se, .int .i64 wi, .int .i64 la, .int .i64 st, .int .i64 ta, .int .i64 pt, .int .i64 ts, .int .i64 ps, .int .i64 sm, .slice A n c, .int .i64 tr, .int .i64 le] 67))
  have k0 := K.out.at (i := 0) rfl
  have k1 := K.out.at (i := 1) rfl
  have k2 := K.out.at (i := 2) rfl
  have k3 := K.out.at (i := 3) rfl
  have k4 := K.out.at (i := 4) rfl
  have k5 := K.out.at (i := 5) rfl
  have k6 := K.out.at (i := 6) rfl
  have k7 := K.out.at (i := 7) rfl
  have k8 := K.out.at (i := 8) rfl
  have k9 := K.out.at (i := 9) rfl
  have k10 := K.out.at (i := 10) rfl
  have k11 := K.out.at (i := 11) rfl
  have k12 := K.out.at (i := 12) rfl
  have k13 := K.out.at (i := 13) rfl
  all_goals
    go_enter Try.func330, Try.ntmps330
    go_wp2_with (first | (go_at_call 277; refine (frmTag_any _ _).mono ?_; rintro e w' ⟨rfl, rfl⟩) | (go_at_call 151; refine (frmLong_any _ _).mono ?_; rintro e w' ⟨rfl, rfl⟩) | (go_at_call 104; refine (frmIn_any _ _ _ _).mono ?_; rintro e w' ⟨rfl, rfl⟩))
    all_goals
      go_ret
      refine ⟨ret_bool ?_, by first | exact HB.out | (repeat first | with_reducible exact Below.refl _ _ | with_reducible assumption | with_reducible refine Below.setCell ?_ (by simp <;> omega) _ | with_reducible refine Below.alloc ?_ (by simp <;> omega) _ | with_reducible refine Below.drew ?_)⟩
      · clear K HB k0 k1 k2 k3 k4 k5 k6 k7 k8 k9 k10 k11 k12 k13
        first | (simp [pkF, *]; done) | (rw [Bool.eq_iff_iff]; simp [pkF, *]; done) | (rw [Bool.eq_iff_iff]; simp [pkF, *]; omega)
set_option maxRecDepth 100000 in
set_option maxHeartbeats 2000000 in
theorem ascInEpoch_any (me pe se wi la st ta pt ts ps sm : Int) (A : Option Addr) (n c : Nat) (tr le : Int) (hc : n ≤ c ∧ c ≤ 9223372036854775807) (w : World) : Calls Try.prog 331 #[.agg #[.int .i64 me, .int .i64 pe, .int .i64 se, .int .i64 wi, .int .i64 la, .int .i64 st, .int .i64 ta, .int .i64 pt, .int .i64 ts, .int .i64 ps, .int .i64 sm, .slice A n c, .int .i64 tr, .int .i64 le]] w fun e w' => e = .returned (.bool (ieF wi la ta pt ts ps sm n)) ∧ Below w.heap.size w w' := by
  have K := Lib.hid (Blk.new (w := w) (b := w.heap.size) #[.int .i64 me, .int .i64 pe, .int .i64 se, .int .i64 wi, .int .i64 la, .int .i64 st, .int .i64 ta, .int .i64 pt, .int .i64 ts, .int .i64 ps, .int .i64 sm, .slice A n c, .int .i64 tr, .int .i64 le] 67 rfl)
  have HB := Lib.hid ((Below.refl w.heap.size w).alloc (Nat.le_refl _) (.cells #[.int .i64 me, .int .i64 pe, .int .i64 se, .int .i64 wi, .int .i64 la, .int .i64 st, .int .i64 ta, .int .i64 pt, .int .i64 ts, .int .i64 ps, .int .i64 sm, .slice A n c, .int .i64 tr, .int .i64 le] 67))
  have k0 := K.out.at (i := 0) rfl
  have k1 := K.out.at (i := 1) rfl
  have k2 := K.out.at (i := 2) rfl
  have k3 := K.out.at (i := 3) rfl
  have k4 := K.out.at (i := 4) rfl
  have k5 := K.out.at (i := 5) rfl
  have k6 := K.out.at (i := 6) rfl
  have k7 := K.out.at (i := 7) rfl
  have k8 := K.out.at (i := 8) rfl
  have k9 := K.out.at (i := 9) rfl
  have k10 := K.out.at (i := 10) rfl
  have k11 := K.out.at (i := 11) rfl
  have k12 := K.out.at (i := 12) rfl
  have k13 := K.out.at (i := 13) rfl
  rcases e0 : (la == ta) with _ | _
  all_goals
    go_enter Try.func331, Try.ntmps331
    go_wp2_with (first | (go_at_call 277; refine (frmTag_any _ _).mono ?_; rintro e w' ⟨rfl, rfl⟩) | (go_at_call 151; refine (frmLong_any _ _).mono ?_; rintro e w' ⟨rfl, rfl⟩) | (go_at_call 330; refine (ascPeerKnown_any _ _ _ _ _ _ _ _ _ _ _ _ _ _ _ _ hc _).mono ?_; rintro e w' ⟨rfl, b⟩; replace K := Lib.hid (K.out.keep b); replace HB := Lib.hid (HB.out.trans (b.mono HB.out.size)); clear b; replace k0 := K.out.at (i := 0) rfl; replace k1 := K.out.at (i := 1) rfl; replace k2 := K.out.at (i := 2) rfl; replace k3 := K.out.at (i := 3) rfl; replace k4 := K.out.at (i := 4) rfl; replace k5 := K.out.at (i := 5) rfl; replace k6 := K.out.at (i := 6) rfl; replace k7 := K.out.at (i := 7) rfl; replace k8 := K.out.at (i := 8) rfl; replace k9 := K.out.at (i := 9) rfl; replace k10 := K.out.at (i := 10) rfl; replace k11 := K.out.at (i := 11) rfl; replace k12 := K.out.at (i := 12) rfl; replace k13 := K.out.at (i := 13) rfl))
    all_goals
      go_ret
      refine ⟨ret_bool ?_, by first | exact HB.out | (repeat first | with_reducible exact Below.refl _ _ | with_reducible assumption | with_reducible refine Below.setCell ?_ (by simp <;> omega) _ | with_reducible refine Below.alloc ?_ (by simp <;> omega) _ | with_reducible refine Below.drew ?_)⟩
      · clear K HB k0 k1 k2 k3 k4 k5 k6 k7 k8 k9 k10 k11 k12 k13
        simp only [beq_iff_eq, beq_eq_false_iff_ne, ne_eq] at e0
        first | (simp [ieF, *]; done) | (rw [Bool.eq_iff_iff]; simp [ieF, *]; done) | (rw [Bool.eq_iff_iff]; simp [ieF, *]; omega)
set_option maxRecDepth 100000 in
set_option maxHeartbeats 2000000 in
theorem ascBegins_any (me pe se wi la st ta pt ts ps sm : Int) (A : Option Addr) (n c : Nat) (tr le : Int) (hc : n ≤ c ∧ c ≤ 9223372036854775807) (w : World) : Calls Try.prog 329 #[.agg #[.int .i64 me, .int .i64 pe, .int .i64 se, .int .i64 wi, .int .i64 la, .int .i64 st, .int .i64 ta, .int .i64 pt, .int .i64 ts, .int .i64 ps, .int .i64 sm, .slice A n c, .int .i64 tr, .int .i64 le]] w fun e w' => e = .returned (.bool (beF la ta ts tr le)) ∧ Below w.heap.size w w' := by
  have K := Lib.hid (Blk.new (w := w) (b := w.heap.size) #[.int .i64 me, .int .i64 pe, .int .i64 se, .int .i64 wi, .int .i64 la, .int .i64 st, .int .i64 ta, .int .i64 pt, .int .i64 ts, .int .i64 ps, .int .i64 sm, .slice A n c, .int .i64 tr, .int .i64 le] 67 rfl)
  have HB := Lib.hid ((Below.refl w.heap.size w).alloc (Nat.le_refl _) (.cells #[.int .i64 me, .int .i64 pe, .int .i64 se, .int .i64 wi, .int .i64 la, .int .i64 st, .int .i64 ta, .int .i64 pt, .int .i64 ts, .int .i64 ps, .int .i64 sm, .slice A n c, .int .i64 tr, .int .i64 le] 67))
  have k0 := K.out.at (i := 0) rfl
  have k1 := K.out.at (i := 1) rfl
  have k2 := K.out.at (i := 2) rfl
  have k3 := K.out.at (i := 3) rfl
  have k4 := K.out.at (i := 4) rfl
  have k5 := K.out.at (i := 5) rfl
  have k6 := K.out.at (i := 6) rfl
  have k7 := K.out.at (i := 7) rfl
  have k8 := K.out.at (i := 8) rfl
  have k9 := K.out.at (i := 9) rfl
  have k10 := K.out.at (i := 10) rfl
  have k11 := K.out.at (i := 11) rfl
  have k12 := K.out.at (i := 12) rfl
  have k13 := K.out.at (i := 13) rfl
  all_goals
    go_enter Try.func329, Try.ntmps329
    go_wp2_with (first | (go_at_call 151; refine (frmLong_any _ _).mono ?_; rintro e w' ⟨rfl, rfl⟩) | (go_at_call 161; refine (ascNewTag_any _ _ _ _ _ _ _ _ _ _ _ _ _ _ _ _ hc _ _).mono ?_; rintro e w' ⟨rfl, b⟩; replace K := Lib.hid (K.out.keep b); replace HB := Lib.hid (HB.out.trans (b.mono HB.out.size)); clear b; replace k0 := K.out.at (i := 0) rfl; replace k1 := K.out.at (i := 1) rfl; replace k2 := K.out.at (i := 2) rfl; replace k3 := K.out.at (i := 3) rfl; replace k4 := K.out.at (i := 4) rfl; replace k5 := K.out.at (i := 5) rfl; replace k6 := K.out.at (i := 6) rfl; replace k7 := K.out.at (i := 7) rfl; replace k8 := K.out.at (i := 8) rfl; replace k9 := K.out.at (i := 9) rfl; replace k10 := K.out.at (i := 10) rfl; replace k11 := K.out.at (i := 11) rfl; replace k12 := K.out.at (i := 12) rfl; replace k13 := K.out.at (i := 13) rfl) | (go_at_call 333; refine (ascCounting_any _ _ _ _ _ _ _ _ _ _ _ _ _ _ _ _ hc _).mono ?_; rintro e w' ⟨rfl, b⟩; replace K := Lib.hid (K.out.keep b); replace HB := Lib.hid (HB.out.trans (b.mono HB.out.size)); clear b; replace k0 := K.out.at (i := 0) rfl; replace k1 := K.out.at (i := 1) rfl; replace k2 := K.out.at (i := 2) rfl; replace k3 := K.out.at (i := 3) rfl; replace k4 := K.out.at (i := 4) rfl; replace k5 := K.out.at (i := 5) rfl; replace k6 := K.out.at (i := 6) rfl; replace k7 := K.out.at (i := 7) rfl; replace k8 := K.out.at (i := 8) rfl; replace k9 := K.out.at (i := 9) rfl; replace k10 := K.out.at (i := 10) rfl; replace k11 := K.out.at (i := 11) rfl; replace k12 := K.out.at (i := 12) rfl; replace k13 := K.out.at (i := 13) rfl))
    all_goals
      go_ret
      refine ⟨ret_bool ?_, by first | exact HB.out | (repeat first | with_reducible exact Below.refl _ _ | with_reducible assumption | with_reducible refine Below.setCell ?_ (by simp <;> omega) _ | with_reducible refine Below.alloc ?_ (by simp <;> omega) _ | with_reducible refine Below.drew ?_)⟩
      · clear K HB k0 k1 k2 k3 k4 k5 k6 k7 k8 k9 k10 k11 k12 k13
        first | (simp [beF, *]; done) | (rw [Bool.eq_iff_iff]; simp [beF, *]; done) | (rw [Bool.eq_iff_iff]; simp [beF, *]; omega)
set_option maxRecDepth 100000 in
set_option maxHeartbeats 2000000 in
theorem ascClosedFits_any (me pe se wi la st ta pt ts ps sm : Int) (A : Option Addr) (n c : Nat) (tr le : Int) (hc : n ≤ c ∧ c ≤ 9223372036854775807) (w : World) : Calls Try.prog 293 #[.agg #[.int .i64 me, .int .i64 pe, .int .i64 se, .int .i64 wi, .int .i64 la, .int .i64 st, .int .i64 ta, .int .i64 pt, .int .i64 ts, .int .i64 ps, .int .i64 sm, .slice A n c, .int .i64 tr, .int .i64 le]] w fun e w' => e = .returned (.bool (decide (ta = 0) && (decide (ts = 0) && (puF pt ps sm n && ncF tr le)))) ∧ Below w.heap.size w w' := by
  have K := Lib.hid (Blk.new (w := w) (b := w.heap.size) #[.int .i64 me, .int .i64 pe, .int .i64 se, .int .i64 wi, .int .i64 la, .int .i64 st, .int .i64 ta, .int .i64 pt, .int .i64 ts, .int .i64 ps, .int .i64 sm, .slice A n c, .int .i64 tr, .int .i64 le] 67 rfl)
  have HB := Lib.hid ((Below.refl w.heap.size w).alloc (Nat.le_refl _) (.cells #[.int .i64 me, .int .i64 pe, .int .i64 se, .int .i64 wi, .int .i64 la, .int .i64 st, .int .i64 ta, .int .i64 pt, .int .i64 ts, .int .i64 ps, .int .i64 sm, .slice A n c, .int .i64 tr, .int .i64 le] 67))
  have k0 := K.out.at (i := 0) rfl
  have k1 := K.out.at (i := 1) rfl
  have k2 := K.out.at (i := 2) rfl
  have k3 := K.out.at (i := 3) rfl
  have k4 := K.out.at (i := 4) rfl
  have k5 := K.out.at (i := 5) rfl
  have k6 := K.out.at (i := 6) rfl
  have k7 := K.out.at (i := 7) rfl
  have k8 := K.out.at (i := 8) rfl
  have k9 := K.out.at (i := 9) rfl
  have k10 := K.out.at (i := 10) rfl
  have k11 := K.out.at (i := 11) rfl
  have k12 := K.out.at (i := 12) rfl
  have k13 := K.out.at (i := 13) rfl
  rcases e0 : (ta == 0) with _ | _
  all_goals rcases e1 : (ts == 0) with _ | _
  all_goals
    go_enter Try.func293, Try.ntmps293
    go_wp2_with (first | (go_at_call 327; refine (ascPeerUnknown_any _ _ _ _ _ _ _ _ _ _ _ _ _ _ _ _ hc _).mono ?_; rintro e w' ⟨rfl, b⟩; replace K := Lib.hid (K.out.keep b); replace HB := Lib.hid (HB.out.trans (b.mono HB.out.size)); clear b; replace k0 := K.out.at (i := 0) rfl; replace k1 := K.out.at (i := 1) rfl; replace k2 := K.out.at (i := 2) rfl; replace k3 := K.out.at (i := 3) rfl; replace k4 := K.out.at (i := 4) rfl; replace k5 := K.out.at (i := 5) rfl; replace k6 := K.out.at (i := 6) rfl; replace k7 := K.out.at (i := 7) rfl; replace k8 := K.out.at (i := 8) rfl; replace k9 := K.out.at (i := 9) rfl; replace k10 := K.out.at (i := 10) rfl; replace k11 := K.out.at (i := 11) rfl; replace k12 := K.out.at (i := 12) rfl; replace k13 := K.out.at (i := 13) rfl) | (go_at_call 328; refine (ascNotCounting_any _ _ _ _ _ _ _ _ _ _ _ _ _ _ _ _ hc _).mono ?_; rintro e w' ⟨rfl, b⟩; replace K := Lib.hid (K.out.keep b); replace HB := Lib.hid (HB.out.trans (b.mono HB.out.size)); clear b; replace k0 := K.out.at (i := 0) rfl; replace k1 := K.out.at (i := 1) rfl; replace k2 := K.out.at (i := 2) rfl; replace k3 := K.out.at (i := 3) rfl; replace k4 := K.out.at (i := 4) rfl; replace k5 := K.out.at (i := 5) rfl; replace k6 := K.out.at (i := 6) rfl; replace k7 := K.out.at (i := 7) rfl; replace k8 := K.out.at (i := 8) rfl; replace k9 := K.out.at (i := 9) rfl; replace k10 := K.out.at (i := 10) rfl; replace k11 := K.out.at (i := 11) rfl; replace k12 := K.out.at (i := 12) rfl; replace k13 := K.out.at (i := 13) rfl))
    all_goals
      go_ret
      refine ⟨ret_bool ?_, by first | exact HB.out | (repeat first | with_reducible exact Below.refl _ _ | with_reducible assumption | with_reducible refine Below.setCell ?_ (by simp <;> omega) _ | with_reducible refine Below.alloc ?_ (by simp <;> omega) _ | with_reducible refine Below.drew ?_)⟩
      · clear K HB k0 k1 k2 k3 k4 k5 k6 k7 k8 k9 k10 k11 k12 k13
        simp only [beq_iff_eq, beq_eq_false_iff_ne, ne_eq] at e0 e1
        first | (simp [*]; done) | (rw [Bool.eq_iff_iff]; simp [*]; done) | (rw [Bool.eq_iff_iff]; simp [*]; omega)
set_option maxRecDepth 100000 in
set_option maxHeartbeats 2000000 in
theorem ascWaitsFits_any (me pe se wi la st ta pt ts ps sm : Int) (A : Option Addr) (n c : Nat) (tr le : Int) (hc : n ≤ c ∧ c ≤ 9223372036854775807) (w : World) : Calls Try.prog 296 #[.agg #[.int .i64 me, .int .i64 pe, .int .i64 se, .int .i64 wi, .int .i64 la, .int .i64 st, .int .i64 ta, .int .i64 pt, .int .i64 ts, .int .i64 ps, .int .i64 sm, .slice A n c, .int .i64 tr, .int .i64 le]] w fun e w' => e = .returned (.bool (beF la ta ts tr le && puF pt ps sm n)) ∧ Below w.heap.size w w' := by
  have K := Lib.hid (Blk.new (w := w) (b := w.heap.size) #[.int .i64 me, .int .i64 pe, .int .i64 se, .int .i64 wi, .int .i64 la, .int .i64 st, .int .i64 ta, .int .i64 pt, .int .i64 ts, .int .i64 ps, .int .i64 sm, .slice A n c, .int .i64 tr, .int .i64 le] 67 rfl)
  have HB := Lib.hid ((Below.refl w.heap.size w).alloc (Nat.le_refl _) (.cells #[.int .i64 me, .int .i64 pe, .int .i64 se, .int .i64 wi, .int .i64 la, .int .i64 st, .int .i64 ta, .int .i64 pt, .int .i64 ts, .int .i64 ps, .int .i64 sm, .slice A n c, .int .i64 tr, .int .i64 le] 67))
  have k0 := K.out.at (i := 0) rfl
  have k1 := K.out.at (i := 1) rfl
  have k2 := K.out.at (i := 2) rfl
  have k3 := K.out.at (i := 3) rfl
  have k4 := K.out.at (i := 4) rfl
  have k5 := K.out.at (i := 5) rfl
  have k6 := K.out.at (i := 6) rfl
  have k7 := K.out.at (i := 7) rfl
  have k8 := K.out.at (i := 8) rfl
  have k9 := K.out.at (i := 9) rfl
  have k10 := K.out.at (i := 10) rfl
  have k11 := K.out.at (i := 11) rfl
  have k12 := K.out.at (i := 12) rfl
  have k13 := K.out.at (i := 13) rfl
  all_goals
    go_enter Try.func296, Try.ntmps296
    go_wp2_with (first | (go_at_call 327; refine (ascPeerUnknown_any _ _ _ _ _ _ _ _ _ _ _ _ _ _ _ _ hc _).mono ?_; rintro e w' ⟨rfl, b⟩; replace K := Lib.hid (K.out.keep b); replace HB := Lib.hid (HB.out.trans (b.mono HB.out.size)); clear b; replace k0 := K.out.at (i := 0) rfl; replace k1 := K.out.at (i := 1) rfl; replace k2 := K.out.at (i := 2) rfl; replace k3 := K.out.at (i := 3) rfl; replace k4 := K.out.at (i := 4) rfl; replace k5 := K.out.at (i := 5) rfl; replace k6 := K.out.at (i := 6) rfl; replace k7 := K.out.at (i := 7) rfl; replace k8 := K.out.at (i := 8) rfl; replace k9 := K.out.at (i := 9) rfl; replace k10 := K.out.at (i := 10) rfl; replace k11 := K.out.at (i := 11) rfl; replace k12 := K.out.at (i := 12) rfl; replace k13 := K.out.at (i := 13) rfl) | (go_at_call 329; refine (ascBegins_any _ _ _ _ _ _ _ _ _ _ _ _ _ _ _ _ hc _).mono ?_; rintro e w' ⟨rfl, b⟩; replace K := Lib.hid (K.out.keep b); replace HB := Lib.hid (HB.out.trans (b.mono HB.out.size)); clear b; replace k0 := K.out.at (i := 0) rfl; replace k1 := K.out.at (i := 1) rfl; replace k2 := K.out.at (i := 2) rfl; replace k3 := K.out.at (i := 3) rfl; replace k4 := K.out.at (i := 4) rfl; replace k5 := K.out.at (i := 5) rfl; replace k6 := K.out.at (i := 6) rfl; replace k7 := K.out.at (i := 7) rfl; replace k8 := K.out.at (i := 8) rfl; replace k9 := K.out.at (i := 9) rfl; replace k10 := K.out.at (i := 10) rfl; replace k11 := K.out.at (i := 11) rfl; replace k12 := K.out.at (i := 12) rfl; replace k13 := K.out.at (i := 13) rfl))
    all_goals
      go_ret
      refine ⟨ret_bool ?_, by first | exact HB.out | (repeat first | with_reducible exact Below.refl _ _ | with_reducible assumption | with_reducible refine Below.setCell ?_ (by simp <;> omega) _ | with_reducible refine Below.alloc ?_ (by simp <;> omega) _ | with_reducible refine Below.drew ?_)⟩
      · clear K HB k0 k1 k2 k3 k4 k5 k6 k7 k8 k9 k10 k11 k12 k13
        first | (simp [*]; done) | (rw [Bool.eq_iff_iff]; simp [*]; done) | (rw [Bool.eq_iff_iff]; simp [*]; omega)
set_option maxRecDepth 100000 in
set_option maxHeartbeats 2000000 in
theorem ascEchoesFits_any (me pe se wi la st ta pt ts ps sm : Int) (A : Option Addr) (n c : Nat) (tr le : Int) (hc : n ≤ c ∧ c ≤ 9223372036854775807) (w : World) : Calls Try.prog 298 #[.agg #[.int .i64 me, .int .i64 pe, .int .i64 se, .int .i64 wi, .int .i64 la, .int .i64 st, .int .i64 ta, .int .i64 pt, .int .i64 ts, .int .i64 ps, .int .i64 sm, .slice A n c, .int .i64 tr, .int .i64 le]] w fun e w' => e = .returned (.bool (beF la ta ts tr le && (pkF wi pt ps sm && inB (n : Int) 1 64))) ∧ Below w.heap.size w w' := by
  have K := Lib.hid (Blk.new (w := w) (b := w.heap.size) #[.int .i64 me, .int .i64 pe, .int .i64 se, .int .i64 wi, .int .i64 la, .int .i64 st, .int .i64 ta, .int .i64 pt, .int .i64 ts, .int .i64 ps, .int .i64 sm, .slice A n c, .int .i64 tr, .int .i64 le] 67 rfl)
  have HB := Lib.hid ((Below.refl w.heap.size w).alloc (Nat.le_refl _) (.cells #[.int .i64 me, .int .i64 pe, .int .i64 se, .int .i64 wi, .int .i64 la, .int .i64 st, .int .i64 ta, .int .i64 pt, .int .i64 ts, .int .i64 ps, .int .i64 sm, .slice A n c, .int .i64 tr, .int .i64 le] 67))
  have k0 := K.out.at (i := 0) rfl
  have k1 := K.out.at (i := 1) rfl
  have k2 := K.out.at (i := 2) rfl
  have k3 := K.out.at (i := 3) rfl
  have k4 := K.out.at (i := 4) rfl
  have k5 := K.out.at (i := 5) rfl
  have k6 := K.out.at (i := 6) rfl
  have k7 := K.out.at (i := 7) rfl
  have k8 := K.out.at (i := 8) rfl
  have k9 := K.out.at (i := 9) rfl
  have k10 := K.out.at (i := 10) rfl
  have k11 := K.out.at (i := 11) rfl
  have k12 := K.out.at (i := 12) rfl
  have k13 := K.out.at (i := 13) rfl
  all_goals
    go_enter Try.func298, Try.ntmps298
    go_wp2_with (first | (go_at_call 104; refine (frmIn_any _ _ _ _).mono ?_; rintro e w' ⟨rfl, rfl⟩) | (go_at_call 330; refine (ascPeerKnown_any _ _ _ _ _ _ _ _ _ _ _ _ _ _ _ _ hc _).mono ?_; rintro e w' ⟨rfl, b⟩; replace K := Lib.hid (K.out.keep b); replace HB := Lib.hid (HB.out.trans (b.mono HB.out.size)); clear b; replace k0 := K.out.at (i := 0) rfl; replace k1 := K.out.at (i := 1) rfl; replace k2 := K.out.at (i := 2) rfl; replace k3 := K.out.at (i := 3) rfl; replace k4 := K.out.at (i := 4) rfl; replace k5 := K.out.at (i := 5) rfl; replace k6 := K.out.at (i := 6) rfl; replace k7 := K.out.at (i := 7) rfl; replace k8 := K.out.at (i := 8) rfl; replace k9 := K.out.at (i := 9) rfl; replace k10 := K.out.at (i := 10) rfl; replace k11 := K.out.at (i := 11) rfl; replace k12 := K.out.at (i := 12) rfl; replace k13 := K.out.at (i := 13) rfl) | (go_at_call 329; refine (ascBegins_any _ _ _ _ _ _ _ _ _ _ _ _ _ _ _ _ hc _).mono ?_; rintro e w' ⟨rfl, b⟩; replace K := Lib.hid (K.out.keep b); replace HB := Lib.hid (HB.out.trans (b.mono HB.out.size)); clear b; replace k0 := K.out.at (i := 0) rfl; replace k1 := K.out.at (i := 1) rfl; replace k2 := K.out.at (i := 2) rfl; replace k3 := K.out.at (i := 3) rfl; replace k4 := K.out.at (i := 4) rfl; replace k5 := K.out.at (i := 5) rfl; replace k6 := K.out.at (i := 6) rfl; replace k7 := K.out.at (i := 7) rfl; replace k8 := K.out.at (i := 8) rfl; replace k9 := K.out.at (i := 9) rfl; replace k10 := K.out.at (i := 10) rfl; replace k11 := K.out.at (i := 11) rfl; replace k12 := K.out.at (i := 12) rfl; replace k13 := K.out.at (i := 13) rfl))
    all_goals
      go_ret
      refine ⟨ret_bool ?_, by first | exact HB.out | (repeat first | with_reducible exact Below.refl _ _ | with_reducible assumption | with_reducible refine Below.setCell ?_ (by simp <;> omega) _ | with_reducible refine Below.alloc ?_ (by simp <;> omega) _ | with_reducible refine Below.drew ?_)⟩
      · clear K HB k0 k1 k2 k3 k4 k5 k6 k7 k8 k9 k10 k11 k12 k13
        first | (simp [*]; done) | (rw [Bool.eq_iff_iff]; simp [*]; done) | (rw [Bool.eq_iff_iff]; simp [*]; omega)
set_option maxRecDepth 100000 in
set_option maxHeartbeats 2000000 in
theorem ascUpFits_any (me pe se wi la st ta pt ts ps sm : Int) (A : Option Addr) (n c : Nat) (tr le : Int) (hc : n ≤ c ∧ c ≤ 9223372036854775807) (w : World) : Calls Try.prog 301 #[.agg #[.int .i64 me, .int .i64 pe, .int .i64 se, .int .i64 wi, .int .i64 la, .int .i64 st, .int .i64 ta, .int .i64 pt, .int .i64 ts, .int .i64 ps, .int .i64 sm, .slice A n c, .int .i64 tr, .int .i64 le]] w fun e w' => e = .returned (.bool (ieF wi la ta pt ts ps sm n && ncF tr le)) ∧ Below w.heap.size w w' := by
  have K := Lib.hid (Blk.new (w := w) (b := w.heap.size) #[.int .i64 me, .int .i64 pe, .int .i64 se, .int .i64 wi, .int .i64 la, .int .i64 st, .int .i64 ta, .int .i64 pt, .int .i64 ts, .int .i64 ps, .int .i64 sm, .slice A n c, .int .i64 tr, .int .i64 le] 67 rfl)
  have HB := Lib.hid ((Below.refl w.heap.size w).alloc (Nat.le_refl _) (.cells #[.int .i64 me, .int .i64 pe, .int .i64 se, .int .i64 wi, .int .i64 la, .int .i64 st, .int .i64 ta, .int .i64 pt, .int .i64 ts, .int .i64 ps, .int .i64 sm, .slice A n c, .int .i64 tr, .int .i64 le] 67))
  have k0 := K.out.at (i := 0) rfl
  have k1 := K.out.at (i := 1) rfl
  have k2 := K.out.at (i := 2) rfl
  have k3 := K.out.at (i := 3) rfl
  have k4 := K.out.at (i := 4) rfl
  have k5 := K.out.at (i := 5) rfl
  have k6 := K.out.at (i := 6) rfl
  have k7 := K.out.at (i := 7) rfl
  have k8 := K.out.at (i := 8) rfl
  have k9 := K.out.at (i := 9) rfl
  have k10 := K.out.at (i := 10) rfl
  have k11 := K.out.at (i := 11) rfl
  have k12 := K.out.at (i := 12) rfl
  have k13 := K.out.at (i := 13) rfl
  all_goals
    go_enter Try.func301, Try.ntmps301
    go_wp2_with (first | (go_at_call 331; refine (ascInEpoch_any _ _ _ _ _ _ _ _ _ _ _ _ _ _ _ _ hc _).mono ?_; rintro e w' ⟨rfl, b⟩; replace K := Lib.hid (K.out.keep b); replace HB := Lib.hid (HB.out.trans (b.mono HB.out.size)); clear b; replace k0 := K.out.at (i := 0) rfl; replace k1 := K.out.at (i := 1) rfl; replace k2 := K.out.at (i := 2) rfl; replace k3 := K.out.at (i := 3) rfl; replace k4 := K.out.at (i := 4) rfl; replace k5 := K.out.at (i := 5) rfl; replace k6 := K.out.at (i := 6) rfl; replace k7 := K.out.at (i := 7) rfl; replace k8 := K.out.at (i := 8) rfl; replace k9 := K.out.at (i := 9) rfl; replace k10 := K.out.at (i := 10) rfl; replace k11 := K.out.at (i := 11) rfl; replace k12 := K.out.at (i := 12) rfl; replace k13 := K.out.at (i := 13) rfl) | (go_at_call 328; refine (ascNotCounting_any _ _ _ _ _ _ _ _ _ _ _ _ _ _ _ _ hc _).mono ?_; rintro e w' ⟨rfl, b⟩; replace K := Lib.hid (K.out.keep b); replace HB := Lib.hid (HB.out.trans (b.mono HB.out.size)); clear b; replace k0 := K.out.at (i := 0) rfl; replace k1 := K.out.at (i := 1) rfl; replace k2 := K.out.at (i := 2) rfl; replace k3 := K.out.at (i := 3) rfl; replace k4 := K.out.at (i := 4) rfl; replace k5 := K.out.at (i := 5) rfl; replace k6 := K.out.at (i := 6) rfl; replace k7 := K.out.at (i := 7) rfl; replace k8 := K.out.at (i := 8) rfl; replace k9 := K.out.at (i := 9) rfl; replace k10 := K.out.at (i := 10) rfl; replace k11 := K.out.at (i := 11) rfl; replace k12 := K.out.at (i := 12) rfl; replace k13 := K.out.at (i := 13) rfl))
    all_goals
      go_ret
      refine ⟨ret_bool ?_, by first | exact HB.out | (repeat first | with_reducible exact Below.refl _ _ | with_reducible assumption | with_reducible refine Below.setCell ?_ (by simp <;> omega) _ | with_reducible refine Below.alloc ?_ (by simp <;> omega) _ | with_reducible refine Below.drew ?_)⟩
      · clear K HB k0 k1 k2 k3 k4 k5 k6 k7 k8 k9 k10 k11 k12 k13
        first | (simp [*]; done) | (rw [Bool.eq_iff_iff]; simp [*]; done) | (rw [Bool.eq_iff_iff]; simp [*]; omega)
set_option maxRecDepth 100000 in
set_option maxHeartbeats 2000000 in
theorem ascEndsFits_any (me pe se wi la st ta pt ts ps sm : Int) (A : Option Addr) (n c : Nat) (tr le : Int) (hc : n ≤ c ∧ c ≤ 9223372036854775807) (w : World) : Calls Try.prog 303 #[.agg #[.int .i64 me, .int .i64 pe, .int .i64 se, .int .i64 wi, .int .i64 la, .int .i64 st, .int .i64 ta, .int .i64 pt, .int .i64 ts, .int .i64 ps, .int .i64 sm, .slice A n c, .int .i64 tr, .int .i64 le]] w fun e w' => e = .returned (.bool (ieF wi la ta pt ts ps sm n && timedA tr le)) ∧ Below w.heap.size w w' := by
  have K := Lib.hid (Blk.new (w := w) (b := w.heap.size) #[.int .i64 me, .int .i64 pe, .int .i64 se, .int .i64 wi, .int .i64 la, .int .i64 st, .int .i64 ta, .int .i64 pt, .int .i64 ts, .int .i64 ps, .int .i64 sm, .slice A n c, .int .i64 tr, .int .i64 le] 67 rfl)
  have HB := Lib.hid ((Below.refl w.heap.size w).alloc (Nat.le_refl _) (.cells #[.int .i64 me, .int .i64 pe, .int .i64 se, .int .i64 wi, .int .i64 la, .int .i64 st, .int .i64 ta, .int .i64 pt, .int .i64 ts, .int .i64 ps, .int .i64 sm, .slice A n c, .int .i64 tr, .int .i64 le] 67))
  have k0 := K.out.at (i := 0) rfl
  have k1 := K.out.at (i := 1) rfl
  have k2 := K.out.at (i := 2) rfl
  have k3 := K.out.at (i := 3) rfl
  have k4 := K.out.at (i := 4) rfl
  have k5 := K.out.at (i := 5) rfl
  have k6 := K.out.at (i := 6) rfl
  have k7 := K.out.at (i := 7) rfl
  have k8 := K.out.at (i := 8) rfl
  have k9 := K.out.at (i := 9) rfl
  have k10 := K.out.at (i := 10) rfl
  have k11 := K.out.at (i := 11) rfl
  have k12 := K.out.at (i := 12) rfl
  have k13 := K.out.at (i := 13) rfl
  all_goals
    go_enter Try.func303, Try.ntmps303
    go_wp2_with (first | (go_at_call 331; refine (ascInEpoch_any _ _ _ _ _ _ _ _ _ _ _ _ _ _ _ _ hc _).mono ?_; rintro e w' ⟨rfl, b⟩; replace K := Lib.hid (K.out.keep b); replace HB := Lib.hid (HB.out.trans (b.mono HB.out.size)); clear b; replace k0 := K.out.at (i := 0) rfl; replace k1 := K.out.at (i := 1) rfl; replace k2 := K.out.at (i := 2) rfl; replace k3 := K.out.at (i := 3) rfl; replace k4 := K.out.at (i := 4) rfl; replace k5 := K.out.at (i := 5) rfl; replace k6 := K.out.at (i := 6) rfl; replace k7 := K.out.at (i := 7) rfl; replace k8 := K.out.at (i := 8) rfl; replace k9 := K.out.at (i := 9) rfl; replace k10 := K.out.at (i := 10) rfl; replace k11 := K.out.at (i := 11) rfl; replace k12 := K.out.at (i := 12) rfl; replace k13 := K.out.at (i := 13) rfl) | (go_at_call 333; refine (ascCounting_any _ _ _ _ _ _ _ _ _ _ _ _ _ _ _ _ hc _).mono ?_; rintro e w' ⟨rfl, b⟩; replace K := Lib.hid (K.out.keep b); replace HB := Lib.hid (HB.out.trans (b.mono HB.out.size)); clear b; replace k0 := K.out.at (i := 0) rfl; replace k1 := K.out.at (i := 1) rfl; replace k2 := K.out.at (i := 2) rfl; replace k3 := K.out.at (i := 3) rfl; replace k4 := K.out.at (i := 4) rfl; replace k5 := K.out.at (i := 5) rfl; replace k6 := K.out.at (i := 6) rfl; replace k7 := K.out.at (i := 7) rfl; replace k8 := K.out.at (i := 8) rfl; replace k9 := K.out.at (i := 9) rfl; replace k10 := K.out.at (i := 10) rfl; replace k11 := K.out.at (i := 11) rfl; replace k12 := K.out.at (i := 12) rfl; replace k13 := K.out.at (i := 13) rfl))
    all_goals
      go_ret
      refine ⟨ret_bool ?_, by first | exact HB.out | (repeat first | with_reducible exact Below.refl _ _ | with_reducible assumption | with_reducible refine Below.setCell ?_ (by simp <;> omega) _ | with_reducible refine Below.alloc ?_ (by simp <;> omega) _ | with_reducible refine Below.drew ?_)⟩
      · clear K HB k0 k1 k2 k3 k4 k5 k6 k7 k8 k9 k10 k11 k12 k13
        first | (simp [*]; done) | (rw [Bool.eq_iff_iff]; simp [*]; done) | (rw [Bool.eq_iff_iff]; simp [*]; omega)
end Go.Proofs.Ythdjjgbjemaabaa
