/-
  Is a sending side ok? The contracts of the program's and of the model's functions, over one plain function.
-/
import Derived.Test.YthdjjgbjemaabaaAllI
import Derived.Test.YthdjjgbjemaabaaTyDatOut
import Derived.BigQuiet
namespace Go.Proofs.Ythdjjgbjemaabaa
open Go.ChangeShapes Go.WideShapes Go.ChangeAt Go.RowKit
set_option linter.unusedVariables false
set_option linter.unusedSimpArgs false

noncomputable def ssnsOk (streams : Int) (ssns : List Int) : Bool := inB streams 1 8 && (decide ((ssns.length : Int) = streams) && allI (fun _ n => inB n 0 65535) ssns)
def pieceOk (p : DDatPiece) (streams : Int) : Bool := inB p.xTsn 0 4294967295 && (inB p.xStream 0 (streams - 1) && (inB p.xSsn 0 65535 && ((!p.xLoose || p.xSsn == 0) && inB p.xBody.length 1 16)))
def unitOk1 (u : DDatUnit) : Bool := inB u.xMark 0 1000000 && (inB u.xStream 0 7 && inB (u.xBody.length : Int) 1 48)
def sentOk (x : DDatOut) (j : Nat) (s : DDatSent) : Bool := pieceOk s.xPiece x.xStreams && (decide (s.xPiece.xTsn = addF x.xNext (j - x.xFlight.length) 32) && (inB s.xTimes 1 1000000 && (inB s.xMark 0 1000000 && !(j == 0 && s.xAcked))))
def queuedOk (x : DDatOut) (_ : Nat) (u : DDatUnit) : Bool := unitOk1 u && decide (u.xStream < x.xStreams)
noncomputable def outOk (x : DDatOut) : Bool := ssnsOk x.xStreams x.xSsns && (inB x.xNext 0 4294967295 && (decide (x.xFlight.length ≤ 8) && (decide (x.xQueue.length ≤ 12) && (allI (sentOk x) x.xFlight && allI (queuedOk x) x.xQueue))))

set_option maxHeartbeats 400000 in
theorem l8Ssns_any (v : Value) (xs : List Int) (streams : Int) (w : World) (hv : RdI w v xs) : Calls Try.prog 253 #[v, .int .i64 streams] w fun e w' => e = .returned (.bool (ssnsOk streams xs)) ∧ w = w' := by
  obtain ⟨A, c, rfl⟩ := hv.slice
  have hc := hv.cap
  have Hv := Lib.hid hv
  clear hv
  generalize hl : xs.length = n at *
  have Hl := Lib.hid hl
  clear hl
  rcases h1 : inB streams 1 8 with _ | _
  · go_enter Try.func253, Try.ntmps253
    go_wp2_with (go_at_call 108; refine (l1In_any _ _ _ _).mono ?_; rintro e w' ⟨rfl, rfl⟩; rw [h1])
    go_ret
    exact ⟨ret_bool (by simp [ssnsOk, h1]), rfl⟩
  by_cases h2 : (n : Int) = streams
  · subst h2
    go_enter Try.func253, Try.ntmps253
    go_wp2_with (go_at_call 108; refine (l1In_any _ _ _ _).mono ?_; rintro e w' ⟨rfl, rfl⟩; rw [h1])
    go_loopw [5] (fun i w1 => ∃ j : Nat, j ≤ n ∧ i = .int .i64 j ∧ w1 = w ∧ UpTo (fun _ n => inB n 0 65535) xs j) (fun i _ => n - (intOf i).toNat)
    case atStart => exact ⟨0, by omega, rfl, rfl, UpTo.zero⟩
    case round =>
      obtain ⟨j, hj, rfl, rfl, hu⟩ := hrel
      have Hu := Lib.hid hu
      clear hu
      by_cases hlt : j < n
      · obtain ⟨ad, hk, rfl, hc'⟩ := Hv.out.at_ hlt
        rcases h3 : inB xs[j] 0 65535 with _ | _
        · go_wp2_with (go_at_call 107; refine (l4Short_any _ _).mono ?_; rintro e w' ⟨rfl, rfl⟩; rw [h3])
          go_ret
          exact ⟨ret_bool (by have hb := allI_bad (p := fun _ n => inB n 0 65535) hk h3; simp [ssnsOk, hb]), rfl⟩
        · go_wp2_with (go_at_call 107; refine (l4Short_any _ _).mono ?_; rintro e w' ⟨rfl, rfl⟩; rw [h3])
          exact ⟨⟨j + 1, by omega, by go_num, by first | rfl | trivial, Hu.out.succ hk h3⟩, by simp [intOf]; omega⟩
      · go_wp2
        go_ret
        exact ⟨ret_bool (by have hb := Hu.out.done (by rw [Hl.out]; omega); have hl := Hl.out; simp [ssnsOk, h1, hb, hl]), rfl⟩
  · go_enter Try.func253, Try.ntmps253
    go_wp2_with (go_at_call 108; refine (l1In_any _ _ _ _).mono ?_; rintro e w' ⟨rfl, rfl⟩; rw [h1])
    go_ret
    exact ⟨ret_bool (by have hl := Hl.out; simp [ssnsOk, h1, hl, h2]), rfl⟩

set_option maxHeartbeats 800000 in
theorem l8PieceOk_r (cs : List Value) (p : DDatPiece) (streams : Int) (w : World) (h : FDatPiece w cs p) (hs : 1 ≤ streams ∧ streams ≤ 8) : Calls Try.prog 254 #[.agg cs.toArray, .int .i64 streams] w fun e w' => e = .returned (.bool (pieceOk p streams)) ∧ Below w.heap.size w w' := by
  obtain ⟨v6, rfl, h6⟩ := h
  obtain ⟨A, c, rfl⟩ := h6.slice
  have hc := h6.cap
  clear h6
  generalize hl : p.xBody.length = n at *
  have Hl := Lib.hid hl
  clear hl
  go_enter Try.func254, Try.ntmps254
  go_wp2_with (first | (go_at_call 108; refine (l1In_any _ _ _ _).mono ?_; rintro e w' ⟨rfl, rfl⟩) | (go_at_call 145; refine (l4Long_any _ _).mono ?_; rintro e w' ⟨rfl, rfl⟩) | (go_at_call 107; refine (l4Short_any _ _).mono ?_; rintro e w' ⟨rfl, rfl⟩))
  all_goals
    go_ret
    exact ⟨ret_bool (by have hl := Hl.out; simp_all [pieceOk]), (Below.refl _ _).alloc (Nat.le_refl _) _⟩
set_option maxHeartbeats 800000 in
theorem datPieceOk_r (cs : List Value) (p : DDatPiece) (streams : Int) (w : World) (h : FDatPiece w cs p) (hs : 1 ≤ streams ∧ streams ≤ 8) : Calls Try.prog 313 #[.agg cs.toArray, .int .i64 streams] w fun e w' => e = .returned (.bool (pieceOk p streams)) ∧ Below w.heap.size w w' := by
  obtain ⟨v6, rfl, h6⟩ := h
  obtain ⟨A, c, rfl⟩ := h6.slice
  have hc := h6.cap
  clear h6
  generalize hl : p.xBody.length = n at *
  have Hl := Lib.hid hl
  clear hl
  go_enter Try.func313, Try.ntmps313
  go_wp2_with (first | (go_at_call 104; refine (frmIn_any _ _ _ _).mono ?_; rintro e w' ⟨rfl, rfl⟩) | (go_at_call 151; refine (frmLong_any _ _).mono ?_; rintro e w' ⟨rfl, rfl⟩) | (go_at_call 103; refine (frmShort_any _ _).mono ?_; rintro e w' ⟨rfl, rfl⟩))
  all_goals
    go_ret
    exact ⟨ret_bool (by have hl := Hl.out; simp_all [pieceOk]), (Below.refl _ _).alloc (Nat.le_refl _) _⟩
set_option maxHeartbeats 400000 in
theorem specUnitOk_r (cs : List Value) (x : DDatUnit) (w : World) (h : FDatUnit w cs x) : Calls Try.prog 182 #[.agg cs.toArray] w fun e w' => e = .returned (.bool (unitOk1 x)) ∧ Below w.heap.size w w' := by
  obtain ⟨v3, rfl, h3⟩ := h
  obtain ⟨A, c, rfl⟩ := h3.slice
  have hc := h3.cap
  clear h3
  generalize hl : x.xBody.length = n at *
  have Hl := Lib.hid hl
  clear hl
  go_enter Try.func182, Try.ntmps182
  go_wp2_with (go_at_call 108; refine (l1In_any _ _ _ _).mono ?_; rintro e w' ⟨rfl, rfl⟩)
  all_goals
    go_ret
    exact ⟨ret_bool (by have hl := Hl.out; simp_all [unitOk1]), (Below.refl _ _).alloc (Nat.le_refl _) _⟩
set_option maxHeartbeats 400000 in
theorem implUnitOk_r (cs : List Value) (x : DDatUnit) (w : World) (h : FDatUnit w cs x) : Calls Try.prog 187 #[.agg cs.toArray] w fun e w' => e = .returned (.bool (unitOk1 x)) ∧ Below w.heap.size w w' := by
  obtain ⟨v3, rfl, h3⟩ := h
  obtain ⟨A, c, rfl⟩ := h3.slice
  have hc := h3.cap
  clear h3
  generalize hl : x.xBody.length = n at *
  have Hl := Lib.hid hl
  clear hl
  go_enter Try.func187, Try.ntmps187
  go_wp2_with (go_at_call 104; refine (frmIn_any _ _ _ _).mono ?_; rintro e w' ⟨rfl, rfl⟩)
  all_goals
    go_ret
    exact ⟨ret_bool (by have hl := Hl.out; simp_all [unitOk1]), (Below.refl _ _).alloc (Nat.le_refl _) _⟩
set_option maxHeartbeats 400000 in
theorem datStreams1_any (n : Int) (w : World) : Calls Try.prog 311 #[.int .i64 n] w fun e w' => e = .returned (.bool (!inB n 0 65535)) ∧ w = w' := by
  go_enter Try.func311, Try.ntmps311
  go_wp2_with (go_at_call 103; refine (frmShort_any _ _).mono ?_; rintro e w' ⟨rfl, rfl⟩)
  go_ret
  exact ⟨rfl, rfl⟩
set_option maxHeartbeats 400000 in
theorem indexInt_streams (v : Value) (xs : List Int) (w : World) (hv : RdI w v xs) : Calls Try.prog 335 #[v, .func (.func 311) #[] #[]] w fun e w' => ∃ r : Int, e = .returned (.int .i64 r) ∧ decide (0 ≤ r) = !allI (fun _ n => inB n 0 65535) xs ∧ w = w' := by
  obtain ⟨A, c, rfl⟩ := hv.slice
  have hc := hv.cap
  have Hv := Lib.hid hv
  clear hv
  generalize hl : xs.length = n at *
  have Hl := Lib.hid hl
  clear hl
  go_enter Try.func335, Try.ntmps335
  go_wp2
  go_loopw [8] (fun i w1 => ∃ j : Nat, j ≤ n ∧ i = .int .i64 j ∧ w1 = w ∧ UpTo (fun _ n => inB n 0 65535) xs j) (fun i _ => n - (intOf i).toNat)
  case atStart => exact ⟨0, by omega, rfl, rfl, UpTo.zero⟩
  case round =>
    obtain ⟨j, hj, rfl, rfl, hu⟩ := hrel
    have Hu := Lib.hid hu
    clear hu
    by_cases hlt : j < n
    · obtain ⟨ad, hk, rfl, hc'⟩ := Hv.out.at_ hlt
      rcases h3 : inB xs[j] 0 65535 with _ | _
      · go_wp2_with (go_at_call 311; refine (datStreams1_any _ _).mono ?_; rintro e w' ⟨rfl, rfl⟩; rw [h3])
        go_ret
        exact ⟨_, rfl, by have hb := allI_bad (p := fun _ n => inB n 0 65535) hk h3; simp [hb], rfl⟩
      · go_wp2_with (go_at_call 311; refine (datStreams1_any _ _).mono ?_; rintro e w' ⟨rfl, rfl⟩; rw [h3])
        exact ⟨⟨j + 1, by omega, by go_num, by first | rfl | trivial, Hu.out.succ hk h3⟩, by simp [intOf]; omega⟩
    · go_wp2
      go_ret
      exact ⟨_, rfl, by have hb := Hu.out.done (by rw [Hl.out]; omega); simp [hb], rfl⟩
set_option maxHeartbeats 400000 in
theorem datStreamsOk_any (v : Value) (xs : List Int) (streams : Int) (w : World) (hv : RdI w v xs) : Calls Try.prog 256 #[.int .i64 streams, v] w fun e w' => e = .returned (.bool (ssnsOk streams xs)) ∧ w = w' := by
  have Hv := Lib.hid hv
  obtain ⟨A, c, rfl⟩ := hv.slice
  have hc := hv.cap
  clear hv
  have hcf : Calls Try.prog 310 #[.slice A xs.length c, .func (.func 311) #[] #[]] w fun e w' => e = .returned (.bool (!allI (fun _ n => inB n 0 65535) xs)) ∧ w = w' := by
    go_enter Try.func310, Try.ntmps310
    go_wp2_with fail
    refine (indexInt_streams _ xs _ Hv.out).mono ?_
    rintro e w' ⟨r, rfl, hr, rfl⟩
    have Hr := Lib.hid hr
    clear hr
    go_wp2
    go_ret
    exact ⟨ret_bool Hr.out, rfl⟩
  have Hcf := Lib.hid hcf
  clear hcf
  generalize hl : xs.length = n at *
  have Hl := Lib.hid hl
  clear hl
  have hss : ssnsOk streams xs = (inB streams 1 8 && (decide ((n : Int) = streams) && allI (fun _ n => inB n 0 65535) xs)) := by rw [← Hl.out]; rfl
  rw [hss]
  generalize allI (fun _ n => inB n 0 65535) xs = ok at *
  clear hss
  go_enter Try.func256, Try.ntmps256
  go_wp2_with (first | (go_at_call 104; refine (frmIn_any _ _ _ _).mono ?_; rintro e w' ⟨rfl, rfl⟩) | (go_at_call 310; refine Hcf.out.mono ?_; rintro e w' ⟨rfl, rfl⟩))
  all_goals
    go_ret
    exact ⟨ret_bool (by simp_all), rfl⟩
end Go.Proofs.Ythdjjgbjemaabaa
