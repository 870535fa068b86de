/-
  Is an end of a line ok? One plain function, and the model's contract. (Written by wip/tools/genascok.py.)
-/
import Derived.Test.YthdjjgbjemaabaaPth
import Derived.Test.YthdjjgbjemaabaaTyAscEnd
import Derived.Test.YthdjjgbjemaabaaBlk
import Derived.BigQuiet
namespace Go.Proofs.Ythdjjgbjemaabaa
open Go.ChangeShapes Go.WideShapes Go.ChangeAt Go.RowKit
set_option linter.unusedVariables false
set_option linter.unusedSimpArgs false


def timedA (tr le : Int) : Bool := inB tr 0 4 && inB le 1 3
def tagA (la t : Int) : Bool := inB t 0 4294967295 && decide (la < t)
def pairA (wi ta pt ts ps sm : Int) : Bool := inB ta 1 4294967295 && (inB pt 1 4294967295 && (inB ts 0 4294967295 && (inB ps 0 4294967295 && inB sm 1 wi)))
def stA (wi la st ta pt ts ps sm : Int) (n : Nat) (tr le : Int) : Bool :=
  (decide (st = 0) && (decide (tr = 0) && (decide (le = 0) && (decide (n = 0) && (decide (ta = 0) && (decide (pt = 0) && (decide (ts = 0) && (decide (ps = 0) && decide (sm = 0))))))))) ||
  (decide (st = 1) && (timedA tr le && (decide (n = 0) && (tagA la ta && (decide (pt = 0) && (inB ts 0 4294967295 && (decide (ps = 0) && decide (sm = 0)))))))) ||
  (decide (st = 2) && (timedA tr le && (inB (n : Int) 1 64 && (tagA la ta && pairA wi ta pt ts ps sm)))) ||
  (decide (st = 3) && (decide (tr = 0) && (decide (le = 0) && (decide (n = 0) && (pairA wi ta pt ts ps sm && decide (la = ta)))))) ||
  ((decide (st = 4) || decide (st = 5)) && (timedA tr le && (decide (n = 0) && (pairA wi ta pt ts ps sm && decide (la = ta)))))
def ascOkA (me pe se wi la st ta pt ts ps sm : Int) (n : Nat) (tr le : Int) : Bool := inB me 0 65535 && (inB pe 0 65535 && (!decide (me = pe) && (inB se 1 2147483646 && (inB wi 1 8 && (inB la 0 4294967295 && stA wi la st ta pt ts ps sm n tr le)))))
def ascOk (x : DAscEnd) : Bool := ascOkA x.xMe x.xPeer x.xSecret x.xWish x.xLast x.xState x.xTag x.xPeerTag x.xTsn x.xPeerTsn x.xStreams x.xCookie.length x.xTries x.xLeft

set_option maxHeartbeats 800000 in
theorem l6Timed_any (me pe se wi la st ta pt ts ps sm : Int) (v : Value) (tr le : Int) (w : World) : Calls Try.prog 235 #[.agg #[.int .i64 me, .int .i64 pe, .int .i64 se, .int .i64 wi, .int .i64 la, .int .i64 st, .int .i64 ta, .int .i64 pt, .int .i64 ts, .int .i64 ps, .int .i64 sm, v, .int .i64 tr, .int .i64 le]] w fun e w' => e = .returned (.bool (timedA tr le)) ∧ Below w.heap.size w w' := by
  go_enter Try.func235, Try.ntmps235
  go_wp2_with (first | (go_at_call 108; refine (l1In_any _ _ _ _).mono ?_; rintro e w' ⟨rfl, rfl⟩))
  all_goals
    go_ret
    refine ⟨ret_bool ?_, ?_⟩
    · simp [timedA, *]
    repeat first | with_reducible exact Below.refl _ _ | with_reducible assumption | with_reducible refine Below.setCell ?_ (by simp <;> omega) _ | with_reducible refine Below.alloc ?_ (by simp <;> omega) _ | with_reducible refine Below.drew ?_
set_option maxHeartbeats 800000 in
theorem l6Tag_any (me pe se wi la st ta pt ts ps sm : Int) (v : Value) (tr le : Int) (t : Int) (w : World) : Calls Try.prog 159 #[.agg #[.int .i64 me, .int .i64 pe, .int .i64 se, .int .i64 wi, .int .i64 la, .int .i64 st, .int .i64 ta, .int .i64 pt, .int .i64 ts, .int .i64 ps, .int .i64 sm, v, .int .i64 tr, .int .i64 le], .int .i64 t] w fun e w' => e = .returned (.bool (tagA la t)) ∧ Below w.heap.size w w' := by
  go_enter Try.func159, Try.ntmps159
  go_wp2_with (first | (go_at_call 145; refine (l4Long_any _ _).mono ?_; rintro e w' ⟨rfl, rfl⟩))
  all_goals
    go_ret
    refine ⟨ret_bool ?_, ?_⟩
    · simp [tagA, *]
    repeat first | with_reducible exact Below.refl _ _ | with_reducible assumption | with_reducible refine Below.setCell ?_ (by simp <;> omega) _ | with_reducible refine Below.alloc ?_ (by simp <;> omega) _ | with_reducible refine Below.drew ?_
set_option maxHeartbeats 800000 in
theorem l6Pair_any (me pe se wi la st ta pt ts ps sm : Int) (v : Value) (tr le : Int) (w : World) : Calls Try.prog 236 #[.agg #[.int .i64 me, .int .i64 pe, .int .i64 se, .int .i64 wi, .int .i64 la, .int .i64 st, .int .i64 ta, .int .i64 pt, .int .i64 ts, .int .i64 ps, .int .i64 sm, v, .int .i64 tr, .int .i64 le]] w fun e w' => e = .returned (.bool (pairA wi ta pt ts ps sm)) ∧ Below w.heap.size w w' := by
  go_enter Try.func236, Try.ntmps236
  go_wp2_with (first | (go_at_call 145; refine (l4Long_any _ _).mono ?_; rintro e w' ⟨rfl, rfl⟩) | (go_at_call 108; refine (l1In_any _ _ _ _).mono ?_; rintro e w' ⟨rfl, rfl⟩))
  all_goals
    go_ret
    refine ⟨ret_bool ?_, ?_⟩
    · rw [Bool.eq_iff_iff]; simp only [pairA, inB_iff, Bool.and_eq_true, decide_eq_true_eq, Bool.false_eq_true, false_iff] at *; omega
    repeat first | with_reducible exact Below.refl _ _ | with_reducible assumption | with_reducible refine Below.setCell ?_ (by simp <;> omega) _ | with_reducible refine Below.alloc ?_ (by simp <;> omega) _ | with_reducible refine Below.drew ?_
set_option maxRecDepth 100000 in
set_option maxHeartbeats 4000000 in
theorem specAscEndOk_any (me pe se wi la st ta pt ts ps sm : Int) (v : Value) (tr le : Int) (xs : List UInt8) (w : World) (hv : RdB w v xs) : Calls Try.prog 142 #[.agg #[.int .i64 me, .int .i64 pe, .int .i64 se, .int .i64 wi, .int .i64 la, .int .i64 st, .int .i64 ta, .int .i64 pt, .int .i64 ts, .int .i64 ps, .int .i64 sm, v, .int .i64 tr, .int .i64 le]] w fun e w' => e = .returned (.bool (ascOkA me pe se wi la st ta pt ts ps sm xs.length tr le)) ∧ Below w.heap.size w w' := by
  obtain ⟨A, c, rfl⟩ := hv.slice
  have hc := hv.cap
  clear hv
  generalize xs.length = n at *
  have hst : st = 0 ∨ st = 1 ∨ st = 2 ∨ st = 3 ∨ st = 4 ∨ st = 5 ∨ (st < 0 ∨ 5 < st) := by omega
  have K := Lib.hid (Blk.new (w := w) (b := w.heap.size) #[.int .i64 me, .int .i64 pe, .int .i64 se, .int .i64 wi, .int .i64 la, .int .i64 st, .int .i64 ta, .int .i64 pt, .int .i64 ts, .int .i64 ps, .int .i64 sm, .slice A n c, .int .i64 tr, .int .i64 le] 67 rfl)
  have HB := Lib.hid ((Below.refl w.heap.size w).alloc (Nat.le_refl _) (.cells #[.int .i64 me, .int .i64 pe, .int .i64 se, .int .i64 wi, .int .i64 la, .int .i64 st, .int .i64 ta, .int .i64 pt, .int .i64 ts, .int .i64 ps, .int .i64 sm, .slice A n c, .int .i64 tr, .int .i64 le] 67))
  have k0 := K.out.at (i := 0) rfl
  have k1 := K.out.at (i := 1) rfl
  have k2 := K.out.at (i := 2) rfl
  have k3 := K.out.at (i := 3) rfl
  have k4 := K.out.at (i := 4) rfl
  have k5 := K.out.at (i := 5) rfl
  have k6 := K.out.at (i := 6) rfl
  have k7 := K.out.at (i := 7) rfl
  have k8 := K.out.at (i := 8) rfl
  have k9 := K.out.at (i := 9) rfl
  have k10 := K.out.at (i := 10) rfl
  have k11 := K.out.at (i := 11) rfl
  have k12 := K.out.at (i := 12) rfl
  have k13 := K.out.at (i := 13) rfl
  clear k0 k1 k2 k3 k4 k5 k6 k7 k8 k9 k10 k11 k12 k13
  go_enter Try.func142, Try.ntmps142
  go_wp2_with fail
  generalize hw2 : World.alloc w _ = w2
  replace K := Lib.hid (show Blk w2 w.heap.size [.int .i64 me, .int .i64 pe, .int .i64 se, .int .i64 wi, .int .i64 la, .int .i64 st, .int .i64 ta, .int .i64 pt, .int .i64 ts, .int .i64 ps, .int .i64 sm, .slice A n c, .int .i64 tr, .int .i64 le] by rw [← hw2]; exact K.out)
  replace HB := Lib.hid (show Below w.heap.size w w2 by rw [← hw2]; exact HB.out)
  clear hw2
  have k0 := K.out.at (i := 0) rfl
  have k1 := K.out.at (i := 1) rfl
  have k2 := K.out.at (i := 2) rfl
  have k3 := K.out.at (i := 3) rfl
  have k4 := K.out.at (i := 4) rfl
  have k5 := K.out.at (i := 5) rfl
  have k6 := K.out.at (i := 6) rfl
  have k7 := K.out.at (i := 7) rfl
  have k8 := K.out.at (i := 8) rfl
  have k9 := K.out.at (i := 9) rfl
  have k10 := K.out.at (i := 10) rfl
  have k11 := K.out.at (i := 11) rfl
  have k12 := K.out.at (i := 12) rfl
  have k13 := K.out.at (i := 13) rfl
  rcases h1 : inB me 0 65535 with _ | _
  · refine (l4Short_any _ _).mono ?_
    rintro e w' ⟨rfl, rfl⟩
    go_wp2_with (first | (go_at_call 107; refine (l4Short_any _ _).mono ?_; rintro e w' ⟨rfl, rfl⟩) | (go_at_call 145; refine (l4Long_any _ _).mono ?_; rintro e w' ⟨rfl, rfl⟩) | (go_at_call 108; refine (l1In_any _ _ _ _).mono ?_; rintro e w' ⟨rfl, rfl⟩) | (go_at_call 235; refine (l6Timed_any _ _ _ _ _ _ _ _ _ _ _ _ _ _ _).mono ?_; rintro e w' ⟨rfl, b⟩; replace K := Lib.hid (K.out.keep b); replace HB := Lib.hid (HB.out.trans (b.mono HB.out.size)); clear b; replace k0 := K.out.at (i := 0) rfl; replace k1 := K.out.at (i := 1) rfl; replace k2 := K.out.at (i := 2) rfl; replace k3 := K.out.at (i := 3) rfl; replace k4 := K.out.at (i := 4) rfl; replace k5 := K.out.at (i := 5) rfl; replace k6 := K.out.at (i := 6) rfl; replace k7 := K.out.at (i := 7) rfl; replace k8 := K.out.at (i := 8) rfl; replace k9 := K.out.at (i := 9) rfl; replace k10 := K.out.at (i := 10) rfl; replace k11 := K.out.at (i := 11) rfl; replace k12 := K.out.at (i := 12) rfl; replace k13 := K.out.at (i := 13) rfl) | (go_at_call 159; refine (l6Tag_any _ _ _ _ _ _ _ _ _ _ _ _ _ _ _ _).mono ?_; rintro e w' ⟨rfl, b⟩; replace K := Lib.hid (K.out.keep b); replace HB := Lib.hid (HB.out.trans (b.mono HB.out.size)); clear b; replace k0 := K.out.at (i := 0) rfl; replace k1 := K.out.at (i := 1) rfl; replace k2 := K.out.at (i := 2) rfl; replace k3 := K.out.at (i := 3) rfl; replace k4 := K.out.at (i := 4) rfl; replace k5 := K.out.at (i := 5) rfl; replace k6 := K.out.at (i := 6) rfl; replace k7 := K.out.at (i := 7) rfl; replace k8 := K.out.at (i := 8) rfl; replace k9 := K.out.at (i := 9) rfl; replace k10 := K.out.at (i := 10) rfl; replace k11 := K.out.at (i := 11) rfl; replace k12 := K.out.at (i := 12) rfl; replace k13 := K.out.at (i := 13) rfl) | (go_at_call 236; refine (l6Pair_any _ _ _ _ _ _ _ _ _ _ _ _ _ _ _).mono ?_; rintro e w' ⟨rfl, b⟩; replace K := Lib.hid (K.out.keep b); replace HB := Lib.hid (HB.out.trans (b.mono HB.out.size)); clear b; replace k0 := K.out.at (i := 0) rfl; replace k1 := K.out.at (i := 1) rfl; replace k2 := K.out.at (i := 2) rfl; replace k3 := K.out.at (i := 3) rfl; replace k4 := K.out.at (i := 4) rfl; replace k5 := K.out.at (i := 5) rfl; replace k6 := K.out.at (i := 6) rfl; replace k7 := K.out.at (i := 7) rfl; replace k8 := K.out.at (i := 8) rfl; replace k9 := K.out.at (i := 9) rfl; replace k10 := K.out.at (i := 10) rfl; replace k11 := K.out.at (i := 11) rfl; replace k12 := K.out.at (i := 12) rfl; replace k13 := K.out.at (i := 13) rfl))
    go_ret
    exact ⟨ret_bool (by skip; simp [ascOkA, h1]), HB.out⟩
  rcases h2 : inB pe 0 65535 with _ | _
  · refine (l4Short_any _ _).mono ?_
    rintro e w' ⟨rfl, rfl⟩
    go_wp2_with (first | (go_at_call 107; refine (l4Short_any _ _).mono ?_; rintro e w' ⟨rfl, rfl⟩) | (go_at_call 145; refine (l4Long_any _ _).mono ?_; rintro e w' ⟨rfl, rfl⟩) | (go_at_call 108; refine (l1In_any _ _ _ _).mono ?_; rintro e w' ⟨rfl, rfl⟩) | (go_at_call 235; refine (l6Timed_any _ _ _ _ _ _ _ _ _ _ _ _ _ _ _).mono ?_; rintro e w' ⟨rfl, b⟩; replace K := Lib.hid (K.out.keep b); replace HB := Lib.hid (HB.out.trans (b.mono HB.out.size)); clear b; replace k0 := K.out.at (i := 0) rfl; replace k1 := K.out.at (i := 1) rfl; replace k2 := K.out.at (i := 2) rfl; replace k3 := K.out.at (i := 3) rfl; replace k4 := K.out.at (i := 4) rfl; replace k5 := K.out.at (i := 5) rfl; replace k6 := K.out.at (i := 6) rfl; replace k7 := K.out.at (i := 7) rfl; replace k8 := K.out.at (i := 8) rfl; replace k9 := K.out.at (i := 9) rfl; replace k10 := K.out.at (i := 10) rfl; replace k11 := K.out.at (i := 11) rfl; replace k12 := K.out.at (i := 12) rfl; replace k13 := K.out.at (i := 13) rfl) | (go_at_call 159; refine (l6Tag_any _ _ _ _ _ _ _ _ _ _ _ _ _ _ _ _).mono ?_; rintro e w' ⟨rfl, b⟩; replace K := Lib.hid (K.out.keep b); replace HB := Lib.hid (HB.out.trans (b.mono HB.out.size)); clear b; replace k0 := K.out.at (i := 0) rfl; replace k1 := K.out.at (i := 1) rfl; replace k2 := K.out.at (i := 2) rfl; replace k3 := K.out.at (i := 3) rfl; replace k4 := K.out.at (i := 4) rfl; replace k5 := K.out.at (i := 5) rfl; replace k6 := K.out.at (i := 6) rfl; replace k7 := K.out.at (i := 7) rfl; replace k8 := K.out.at (i := 8) rfl; replace k9 := K.out.at (i := 9) rfl; replace k10 := K.out.at (i := 10) rfl; replace k11 := K.out.at (i := 11) rfl; replace k12 := K.out.at (i := 12) rfl; replace k13 := K.out.at (i := 13) rfl) | (go_at_call 236; refine (l6Pair_any _ _ _ _ _ _ _ _ _ _ _ _ _ _ _).mono ?_; rintro e w' ⟨rfl, b⟩; replace K := Lib.hid (K.out.keep b); replace HB := Lib.hid (HB.out.trans (b.mono HB.out.size)); clear b; replace k0 := K.out.at (i := 0) rfl; replace k1 := K.out.at (i := 1) rfl; replace k2 := K.out.at (i := 2) rfl; replace k3 := K.out.at (i := 3) rfl; replace k4 := K.out.at (i := 4) rfl; replace k5 := K.out.at (i := 5) rfl; replace k6 := K.out.at (i := 6) rfl; replace k7 := K.out.at (i := 7) rfl; replace k8 := K.out.at (i := 8) rfl; replace k9 := K.out.at (i := 9) rfl; replace k10 := K.out.at (i := 10) rfl; replace k11 := K.out.at (i := 11) rfl; replace k12 := K.out.at (i := 12) rfl; replace k13 := K.out.at (i := 13) rfl))
    go_ret
    exact ⟨ret_bool (by skip; simp [ascOkA, h2]), HB.out⟩
  rcases e3 : (me == pe) with _ | _
  rotate_left
  · refine (l4Short_any _ _).mono ?_
    rintro e w' ⟨rfl, rfl⟩
    go_wp2_with (first | (go_at_call 107; refine (l4Short_any _ _).mono ?_; rintro e w' ⟨rfl, rfl⟩) | (go_at_call 145; refine (l4Long_any _ _).mono ?_; rintro e w' ⟨rfl, rfl⟩) | (go_at_call 108; refine (l1In_any _ _ _ _).mono ?_; rintro e w' ⟨rfl, rfl⟩) | (go_at_call 235; refine (l6Timed_any _ _ _ _ _ _ _ _ _ _ _ _ _ _ _).mono ?_; rintro e w' ⟨rfl, b⟩; replace K := Lib.hid (K.out.keep b); replace HB := Lib.hid (HB.out.trans (b.mono HB.out.size)); clear b; replace k0 := K.out.at (i := 0) rfl; replace k1 := K.out.at (i := 1) rfl; replace k2 := K.out.at (i := 2) rfl; replace k3 := K.out.at (i := 3) rfl; replace k4 := K.out.at (i := 4) rfl; replace k5 := K.out.at (i := 5) rfl; replace k6 := K.out.at (i := 6) rfl; replace k7 := K.out.at (i := 7) rfl; replace k8 := K.out.at (i := 8) rfl; replace k9 := K.out.at (i := 9) rfl; replace k10 := K.out.at (i := 10) rfl; replace k11 := K.out.at (i := 11) rfl; replace k12 := K.out.at (i := 12) rfl; replace k13 := K.out.at (i := 13) rfl) | (go_at_call 159; refine (l6Tag_any _ _ _ _ _ _ _ _ _ _ _ _ _ _ _ _).mono ?_; rintro e w' ⟨rfl, b⟩; replace K := Lib.hid (K.out.keep b); replace HB := Lib.hid (HB.out.trans (b.mono HB.out.size)); clear b; replace k0 := K.out.at (i := 0) rfl; replace k1 := K.out.at (i := 1) rfl; replace k2 := K.out.at (i := 2) rfl; replace k3 := K.out.at (i := 3) rfl; replace k4 := K.out.at (i := 4) rfl; replace k5 := K.out.at (i := 5) rfl; replace k6 := K.out.at (i := 6) rfl; replace k7 := K.out.at (i := 7) rfl; replace k8 := K.out.at (i := 8) rfl; replace k9 := K.out.at (i := 9) rfl; replace k10 := K.out.at (i := 10) rfl; replace k11 := K.out.at (i := 11) rfl; replace k12 := K.out.at (i := 12) rfl; replace k13 := K.out.at (i := 13) rfl) | (go_at_call 236; refine (l6Pair_any _ _ _ _ _ _ _ _ _ _ _ _ _ _ _).mono ?_; rintro e w' ⟨rfl, b⟩; replace K := Lib.hid (K.out.keep b); replace HB := Lib.hid (HB.out.trans (b.mono HB.out.size)); clear b; replace k0 := K.out.at (i := 0) rfl; replace k1 := K.out.at (i := 1) rfl; replace k2 := K.out.at (i := 2) rfl; replace k3 := K.out.at (i := 3) rfl; replace k4 := K.out.at (i := 4) rfl; replace k5 := K.out.at (i := 5) rfl; replace k6 := K.out.at (i := 6) rfl; replace k7 := K.out.at (i := 7) rfl; replace k8 := K.out.at (i := 8) rfl; replace k9 := K.out.at (i := 9) rfl; replace k10 := K.out.at (i := 10) rfl; replace k11 := K.out.at (i := 11) rfl; replace k12 := K.out.at (i := 12) rfl; replace k13 := K.out.at (i := 13) rfl))
    go_ret
    exact ⟨ret_bool (by have p3 : me = pe := (by simpa using e3); simp [ascOkA, p3]), HB.out⟩
  rcases h5 : inB se 1 2147483646 with _ | _
  · refine (l4Short_any _ _).mono ?_
    rintro e w' ⟨rfl, rfl⟩
    go_wp2_with (first | (go_at_call 107; refine (l4Short_any _ _).mono ?_; rintro e w' ⟨rfl, rfl⟩) | (go_at_call 145; refine (l4Long_any _ _).mono ?_; rintro e w' ⟨rfl, rfl⟩) | (go_at_call 108; refine (l1In_any _ _ _ _).mono ?_; rintro e w' ⟨rfl, rfl⟩) | (go_at_call 235; refine (l6Timed_any _ _ _ _ _ _ _ _ _ _ _ _ _ _ _).mono ?_; rintro e w' ⟨rfl, b⟩; replace K := Lib.hid (K.out.keep b); replace HB := Lib.hid (HB.out.trans (b.mono HB.out.size)); clear b; replace k0 := K.out.at (i := 0) rfl; replace k1 := K.out.at (i := 1) rfl; replace k2 := K.out.at (i := 2) rfl; replace k3 := K.out.at (i := 3) rfl; replace k4 := K.out.at (i := 4) rfl; replace k5 := K.out.at (i := 5) rfl; replace k6 := K.out.at (i := 6) rfl; replace k7 := K.out.at (i := 7) rfl; replace k8 := K.out.at (i := 8) rfl; replace k9 := K.out.at (i := 9) rfl; replace k10 := K.out.at (i := 10) rfl; replace k11 := K.out.at (i := 11) rfl; replace k12 := K.out.at (i := 12) rfl; replace k13 := K.out.at (i := 13) rfl) | (go_at_call 159; refine (l6Tag_any _ _ _ _ _ _ _ _ _ _ _ _ _ _ _ _).mono ?_; rintro e w' ⟨rfl, b⟩; replace K := Lib.hid (K.out.keep b); replace HB := Lib.hid (HB.out.trans (b.mono HB.out.size)); clear b; replace k0 := K.out.at (i := 0) rfl; replace k1 := K.out.at (i := 1) rfl; replace k2 := K.out.at (i := 2) rfl; replace k3 := K.out.at (i := 3) rfl; replace k4 := K.out.at (i := 4) rfl; replace k5 := K.out.at (i := 5) rfl; replace k6 := K.out.at (i := 6) rfl; replace k7 := K.out.at (i := 7) rfl; replace k8 := K.out.at (i := 8) rfl; replace k9 := K.out.at (i := 9) rfl; replace k10 := K.out.at (i := 10) rfl; replace k11 := K.out.at (i := 11) rfl; replace k12 := K.out.at (i := 12) rfl; replace k13 := K.out.at (i := 13) rfl) | (go_at_call 236; refine (l6Pair_any _ _ _ _ _ _ _ _ _ _ _ _ _ _ _).mono ?_; rintro e w' ⟨rfl, b⟩; replace K := Lib.hid (K.out.keep b); replace HB := Lib.hid (HB.out.trans (b.mono HB.out.size)); clear b; replace k0 := K.out.at (i := 0) rfl; replace k1 := K.out.at (i := 1) rfl; replace k2 := K.out.at (i := 2) rfl; replace k3 := K.out.at (i := 3) rfl; replace k4 := K.out.at (i := 4) rfl; replace k5 := K.out.at (i := 5) rfl; replace k6 := K.out.at (i := 6) rfl; replace k7 := K.out.at (i := 7) rfl; replace k8 := K.out.at (i := 8) rfl; replace k9 := K.out.at (i := 9) rfl; replace k10 := K.out.at (i := 10) rfl; replace k11 := K.out.at (i := 11) rfl; replace k12 := K.out.at (i := 12) rfl; replace k13 := K.out.at (i := 13) rfl))
    go_ret
    exact ⟨ret_bool (by skip; simp [ascOkA, h5]), HB.out⟩
  rcases h6 : inB wi 1 8 with _ | _
  · refine (l4Short_any _ _).mono ?_
    rintro e w' ⟨rfl, rfl⟩
    go_wp2_with (first | (go_at_call 107; refine (l4Short_any _ _).mono ?_; rintro e w' ⟨rfl, rfl⟩) | (go_at_call 145; refine (l4Long_any _ _).mono ?_; rintro e w' ⟨rfl, rfl⟩) | (go_at_call 108; refine (l1In_any _ _ _ _).mono ?_; rintro e w' ⟨rfl, rfl⟩) | (go_at_call 235; refine (l6Timed_any _ _ _ _ _ _ _ _ _ _ _ _ _ _ _).mono ?_; rintro e w' ⟨rfl, b⟩; replace K := Lib.hid (K.out.keep b); replace HB := Lib.hid (HB.out.trans (b.mono HB.out.size)); clear b; replace k0 := K.out.at (i := 0) rfl; replace k1 := K.out.at (i := 1) rfl; replace k2 := K.out.at (i := 2) rfl; replace k3 := K.out.at (i := 3) rfl; replace k4 := K.out.at (i := 4) rfl; replace k5 := K.out.at (i := 5) rfl; replace k6 := K.out.at (i := 6) rfl; replace k7 := K.out.at (i := 7) rfl; replace k8 := K.out.at (i := 8) rfl; replace k9 := K.out.at (i := 9) rfl; replace k10 := K.out.at (i := 10) rfl; replace k11 := K.out.at (i := 11) rfl; replace k12 := K.out.at (i := 12) rfl; replace k13 := K.out.at (i := 13) rfl) | (go_at_call 159; refine (l6Tag_any _ _ _ _ _ _ _ _ _ _ _ _ _ _ _ _).mono ?_; rintro e w' ⟨rfl, b⟩; replace K := Lib.hid (K.out.keep b); replace HB := Lib.hid (HB.out.trans (b.mono HB.out.size)); clear b; replace k0 := K.out.at (i := 0) rfl; replace k1 := K.out.at (i := 1) rfl; replace k2 := K.out.at (i := 2) rfl; replace k3 := K.out.at (i := 3) rfl; replace k4 := K.out.at (i := 4) rfl; replace k5 := K.out.at (i := 5) rfl; replace k6 := K.out.at (i := 6) rfl; replace k7 := K.out.at (i := 7) rfl; replace k8 := K.out.at (i := 8) rfl; replace k9 := K.out.at (i := 9) rfl; replace k10 := K.out.at (i := 10) rfl; replace k11 := K.out.at (i := 11) rfl; replace k12 := K.out.at (i := 12) rfl; replace k13 := K.out.at (i := 13) rfl) | (go_at_call 236; refine (l6Pair_any _ _ _ _ _ _ _ _ _ _ _ _ _ _ _).mono ?_; rintro e w' ⟨rfl, b⟩; replace K := Lib.hid (K.out.keep b); replace HB := Lib.hid (HB.out.trans (b.mono HB.out.size)); clear b; replace k0 := K.out.at (i := 0) rfl; replace k1 := K.out.at (i := 1) rfl; replace k2 := K.out.at (i := 2) rfl; replace k3 := K.out.at (i := 3) rfl; replace k4 := K.out.at (i := 4) rfl; replace k5 := K.out.at (i := 5) rfl; replace k6 := K.out.at (i := 6) rfl; replace k7 := K.out.at (i := 7) rfl; replace k8 := K.out.at (i := 8) rfl; replace k9 := K.out.at (i := 9) rfl; replace k10 := K.out.at (i := 10) rfl; replace k11 := K.out.at (i := 11) rfl; replace k12 := K.out.at (i := 12) rfl; replace k13 := K.out.at (i := 13) rfl))
    go_ret
    exact ⟨ret_bool (by skip; simp [ascOkA, h6]), HB.out⟩
  rcases h4 : inB la 0 4294967295 with _ | _
  · refine (l4Short_any _ _).mono ?_
    rintro e w' ⟨rfl, rfl⟩
    go_wp2_with (first | (go_at_call 107; refine (l4Short_any _ _).mono ?_; rintro e w' ⟨rfl, rfl⟩) | (go_at_call 145; refine (l4Long_any _ _).mono ?_; rintro e w' ⟨rfl, rfl⟩) | (go_at_call 108; refine (l1In_any _ _ _ _).mono ?_; rintro e w' ⟨rfl, rfl⟩) | (go_at_call 235; refine (l6Timed_any _ _ _ _ _ _ _ _ _ _ _ _ _ _ _).mono ?_; rintro e w' ⟨rfl, b⟩; replace K := Lib.hid (K.out.keep b); replace HB := Lib.hid (HB.out.trans (b.mono HB.out.size)); clear b; replace k0 := K.out.at (i := 0) rfl; replace k1 := K.out.at (i := 1) rfl; replace k2 := K.out.at (i := 2) rfl; replace k3 := K.out.at (i := 3) rfl; replace k4 := K.out.at (i := 4) rfl; replace k5 := K.out.at (i := 5) rfl; replace k6 := K.out.at (i := 6) rfl; replace k7 := K.out.at (i := 7) rfl; replace k8 := K.out.at (i := 8) rfl; replace k9 := K.out.at (i := 9) rfl; replace k10 := K.out.at (i := 10) rfl; replace k11 := K.out.at (i := 11) rfl; replace k12 := K.out.at (i := 12) rfl; replace k13 := K.out.at (i := 13) rfl) | (go_at_call 159; refine (l6Tag_any _ _ _ _ _ _ _ _ _ _ _ _ _ _ _ _).mono ?_; rintro e w' ⟨rfl, b⟩; replace K := Lib.hid (K.out.keep b); replace HB := Lib.hid (HB.out.trans (b.mono HB.out.size)); clear b; replace k0 := K.out.at (i := 0) rfl; replace k1 := K.out.at (i := 1) rfl; replace k2 := K.out.at (i := 2) rfl; replace k3 := K.out.at (i := 3) rfl; replace k4 := K.out.at (i := 4) rfl; replace k5 := K.out.at (i := 5) rfl; replace k6 := K.out.at (i := 6) rfl; replace k7 := K.out.at (i := 7) rfl; replace k8 := K.out.at (i := 8) rfl; replace k9 := K.out.at (i := 9) rfl; replace k10 := K.out.at (i := 10) rfl; replace k11 := K.out.at (i := 11) rfl; replace k12 := K.out.at (i := 12) rfl; replace k13 := K.out.at (i := 13) rfl) | (go_at_call 236; refine (l6Pair_any _ _ _ _ _ _ _ _ _ _ _ _ _ _ _).mono ?_; rintro e w' ⟨rfl, b⟩; replace K := Lib.hid (K.out.keep b); replace HB := Lib.hid (HB.out.trans (b.mono HB.out.size)); clear b; replace k0 := K.out.at (i := 0) rfl; replace k1 := K.out.at (i := 1) rfl; replace k2 := K.out.at (i := 2) rfl; replace k3 := K.out.at (i := 3) rfl; replace k4 := K.out.at (i := 4) rfl; replace k5 := K.out.at (i := 5) rfl; replace k6 := K.out.at (i := 6) rfl; replace k7 := K.out.at (i := 7) rfl; replace k8 := K.out.at (i := 8) rfl; replace k9 := K.out.at (i := 9) rfl; replace k10 := K.out.at (i := 10) rfl; replace k11 := K.out.at (i := 11) rfl; replace k12 := K.out.at (i := 12) rfl; replace k13 := K.out.at (i := 13) rfl))
    go_ret
    exact ⟨ret_bool (by skip; simp [ascOkA, h4]), HB.out⟩
  have p3 := Lib.hid (show ¬ me = pe by simpa using e3)
  have Hlead := Lib.hid (show ascOkA me pe se wi la st ta pt ts ps sm n tr le = stA wi la st ta pt ts ps sm n tr le by have := p3.out; simp [ascOkA, h1, h2, h4, h5, h6, this])
  rcases hst with rfl | rfl | rfl | rfl | rfl | rfl | hst
  all_goals
    refine (l4Short_any _ _).mono ?_
    rintro e w' ⟨rfl, rfl⟩
    go_wp2_with (first | (go_at_call 107; refine (l4Short_any _ _).mono ?_; rintro e w' ⟨rfl, rfl⟩) | (go_at_call 145; refine (l4Long_any _ _).mono ?_; rintro e w' ⟨rfl, rfl⟩) | (go_at_call 108; refine (l1In_any _ _ _ _).mono ?_; rintro e w' ⟨rfl, rfl⟩) | (go_at_call 235; refine (l6Timed_any _ _ _ _ _ _ _ _ _ _ _ _ _ _ _).mono ?_; rintro e w' ⟨rfl, b⟩; replace K := Lib.hid (K.out.keep b); replace HB := Lib.hid (HB.out.trans (b.mono HB.out.size)); clear b; replace k0 := K.out.at (i := 0) rfl; replace k1 := K.out.at (i := 1) rfl; replace k2 := K.out.at (i := 2) rfl; replace k3 := K.out.at (i := 3) rfl; replace k4 := K.out.at (i := 4) rfl; replace k5 := K.out.at (i := 5) rfl; replace k6 := K.out.at (i := 6) rfl; replace k7 := K.out.at (i := 7) rfl; replace k8 := K.out.at (i := 8) rfl; replace k9 := K.out.at (i := 9) rfl; replace k10 := K.out.at (i := 10) rfl; replace k11 := K.out.at (i := 11) rfl; replace k12 := K.out.at (i := 12) rfl; replace k13 := K.out.at (i := 13) rfl) | (go_at_call 159; refine (l6Tag_any _ _ _ _ _ _ _ _ _ _ _ _ _ _ _ _).mono ?_; rintro e w' ⟨rfl, b⟩; replace K := Lib.hid (K.out.keep b); replace HB := Lib.hid (HB.out.trans (b.mono HB.out.size)); clear b; replace k0 := K.out.at (i := 0) rfl; replace k1 := K.out.at (i := 1) rfl; replace k2 := K.out.at (i := 2) rfl; replace k3 := K.out.at (i := 3) rfl; replace k4 := K.out.at (i := 4) rfl; replace k5 := K.out.at (i := 5) rfl; replace k6 := K.out.at (i := 6) rfl; replace k7 := K.out.at (i := 7) rfl; replace k8 := K.out.at (i := 8) rfl; replace k9 := K.out.at (i := 9) rfl; replace k10 := K.out.at (i := 10) rfl; replace k11 := K.out.at (i := 11) rfl; replace k12 := K.out.at (i := 12) rfl; replace k13 := K.out.at (i := 13) rfl) | (go_at_call 236; refine (l6Pair_any _ _ _ _ _ _ _ _ _ _ _ _ _ _ _).mono ?_; rintro e w' ⟨rfl, b⟩; replace K := Lib.hid (K.out.keep b); replace HB := Lib.hid (HB.out.trans (b.mono HB.out.size)); clear b; replace k0 := K.out.at (i := 0) rfl; replace k1 := K.out.at (i := 1) rfl; replace k2 := K.out.at (i := 2) rfl; replace k3 := K.out.at (i := 3) rfl; replace k4 := K.out.at (i := 4) rfl; replace k5 := K.out.at (i := 5) rfl; replace k6 := K.out.at (i := 6) rfl; replace k7 := K.out.at (i := 7) rfl; replace k8 := K.out.at (i := 8) rfl; replace k9 := K.out.at (i := 9) rfl; replace k10 := K.out.at (i := 10) rfl; replace k11 := K.out.at (i := 11) rfl; replace k12 := K.out.at (i := 12) rfl; replace k13 := K.out.at (i := 13) rfl))
    all_goals
      go_ret
      refine ⟨ret_bool ?_, HB.out⟩
      rw [Hlead.out]
      clear K HB k0 k1 k2 k3 k4 k5 k6 k7 k8 k9 k10 k11 k12 k13 h1 h2 h4 h5 h6 e3 p3 Hlead
      first | (simp [stA, *]; done) | (rw [Bool.eq_iff_iff]; simp [stA, *]; done) | (rw [Bool.eq_iff_iff]; simp [stA, *]; omega)
theorem specAscEndOk_r (cs : List Value) (x : DAscEnd) (w : World) (h : FAscEnd w cs x) : Calls Try.prog 142 #[.agg cs.toArray] w fun e w' => e = .returned (.bool (ascOk x)) ∧ Below w.heap.size w w' := by
  obtain ⟨v11, rfl, h11⟩ := h
  exact specAscEndOk_any _ _ _ _ _ _ _ _ _ _ _ _ _ _ x.xCookie w h11
end Go.Proofs.Ythdjjgbjemaabaa
