/-
  Is a pipe ok? The contracts of the program's and of the model's functions, over one plain function. (Written by wip/tools/genpipeok.py.)
-/
import Derived.Test.YtcflkcjicaieeaaAirOk
import Derived.Test.YtcflkcjicaieeaaInOkS
import Derived.Test.YtcflkcjicaieeaaOutOkS
import Derived.Test.YtcflkcjicaieeaaOutOkI
import Derived.Test.YtcflkcjicaieeaaTyDatPipe
namespace Go.Proofs.Ytcflkcjicaieeaa
open Go.ChangeShapes Go.WideShapes Go.ChangeAt Go.RowKit
set_option linter.unusedVariables false
set_option linter.unusedSimpArgs false

noncomputable def pipeOk (x : DDatPipe) : Bool := outOk x.xOut && (inOk x.xIn && (decide (x.xOut.xStreams = x.xIn.xStreams) && (decide (x.xAir.length ≤ 16) && (decide (x.xGiven.length ≤ 30) && (decide (x.xGot.length ≤ 30) && allI (fun _ a => airOk a) x.xAir)))))
set_option maxRecDepth 100000 in
set_option maxHeartbeats 2000000 in
theorem specDatPipeOk_r (cs : List Value) (x : DDatPipe) (w : World) (h : FDatPipe w cs x) : Calls Try.prog 77 #[.agg cs.toArray] w fun e w' => e = .returned (.bool (pipeOk x)) ∧ Below w.heap.size w w' := by
  obtain ⟨v2, v3, v4, v7, v8, v9, v10, v11, v12, rfl, h2, h3, h4, h7, h8, h9, h10, h11, h12⟩ := h
  obtain ⟨A10, q10, rfl⟩ := RdS.slice h10
  obtain ⟨A11, q11, rfl⟩ := RdS.slice h11
  obtain ⟨A12, q12, rfl⟩ := RdS.slice h12
  have hc10 := RdS.cap h10
  have hc11 := RdS.cap h11
  have hc12 := RdS.cap h12
  have HO := Lib.hid (show FDatOut w [.int .i64 x.xOut.xStreams, .int .i64 x.xOut.xNext, v2, v3, v4] x.xOut from ⟨_, _, _, rfl, h2, h3, h4⟩)
  have HI := Lib.hid (show FDatIn w [.int .i64 x.xIn.xStreams, .int .i64 x.xIn.xCum, v7, v8, v9] x.xIn from ⟨_, _, _, rfl, h7, h8, h9⟩)
  have H10 := Lib.hid h10
  clear h2 h3 h4 h7 h8 h9 h10 h11 h12
  have Hpo := Lib.hid (show pipeOk x = (outOk x.xOut && (inOk x.xIn && (decide (x.xOut.xStreams = x.xIn.xStreams) && (decide (x.xAir.length ≤ 16) && (decide (x.xGiven.length ≤ 30) && (decide (x.xGot.length ≤ 30) && allI (fun _ a => airOk a) x.xAir)))))) from rfl)
  generalize hl10 : x.xAir.length = n10 at *
  generalize x.xGiven.length = n11 at *
  generalize x.xGot.length = n12 at *
  have Hl10 := Lib.hid hl10
  clear hl10
  have K := Lib.hid (Blk.new (w := w) (b := w.heap.size) #[.int .i64 x.xOut.xStreams, .int .i64 x.xOut.xNext, v2, v3, v4, .int .i64 x.xIn.xStreams, .int .i64 x.xIn.xCum, v7, v8, v9, .slice A10 n10 q10, .slice A11 n11 q11, .slice A12 n12 q12] 106 rfl)
  have HB := Lib.hid ((Below.refl w.heap.size w).alloc (Nat.le_refl _) (.cells #[.int .i64 x.xOut.xStreams, .int .i64 x.xOut.xNext, v2, v3, v4, .int .i64 x.xIn.xStreams, .int .i64 x.xIn.xCum, v7, v8, v9, .slice A10 n10 q10, .slice A11 n11 q11, .slice A12 n12 q12] 106))
  go_enter Try.func77, Try.ntmps77
  go_wp2_with fail
  refine (specDatOutOk_r _ x.xOut _ (HO.out.below HB.out)).mono ?_
  rintro e w1 ⟨rfl, b1⟩
  replace K := Lib.hid (K.out.keep b1)
  replace HB := Lib.hid (HB.out.trans (b1.mono HB.out.size))
  clear b1
  rcases ho : outOk x.xOut with _ | _
  · go_wp2
    go_ret
    exact ⟨ret_bool (by rw [Hpo.out, ho]; rfl), HB.out⟩
  have k5 := K.out.at (i := 5) rfl
  have k6 := K.out.at (i := 6) rfl
  have k7 := K.out.at (i := 7) rfl
  have k8 := K.out.at (i := 8) rfl
  have k9 := K.out.at (i := 9) rfl
  go_wp2_with fail
  refine (specDatInOk_r _ x.xIn _ (HI.out.below HB.out)).mono ?_
  rintro e w1 ⟨rfl, b1⟩
  replace K := Lib.hid (K.out.keep b1)
  replace HB := Lib.hid (HB.out.trans (b1.mono HB.out.size))
  clear b1 k5 k6 k7 k8 k9
  rcases hi : inOk x.xIn with _ | _
  · go_wp2
    go_ret
    exact ⟨ret_bool (by rw [Hpo.out, ho, hi]; rfl), HB.out⟩
  have k0 := K.out.at (i := 0) rfl
  have k5 := K.out.at (i := 5) rfl
  have k10 := K.out.at (i := 10) rfl
  have k11 := K.out.at (i := 11) rfl
  have k12 := K.out.at (i := 12) rfl
  by_cases hs : x.xOut.xStreams = x.xIn.xStreams
  rotate_left
  · have hs' : (x.xOut.xStreams != x.xIn.xStreams) = true := by simpa using hs
    have Hs := Lib.hid hs
    clear hs
    go_wp2
    go_ret
    exact ⟨ret_bool (by rw [Hpo.out, ho, hi, decide_eq_false Hs.out]; rfl), HB.out⟩
  have hs' : (x.xOut.xStreams != x.xIn.xStreams) = false := by simpa using hs
  have Hs := Lib.hid hs
  clear hs
  rcases Nat.lt_or_ge 16 n10 with ha | ha
  · go_wp2
    go_ret
    exact ⟨ret_bool (by rw [Hpo.out, ho, hi, decide_eq_true Hs.out, decide_eq_false (Nat.not_le.2 ha)]; rfl), HB.out⟩
  rcases Nat.lt_or_ge 30 n11 with hb | hb
  · go_wp2
    go_ret
    exact ⟨ret_bool (by rw [Hpo.out, ho, hi, decide_eq_true Hs.out, decide_eq_true ha, decide_eq_false (Nat.not_le.2 hb)]; rfl), HB.out⟩
  rcases Nat.lt_or_ge 30 n12 with hd | hd
  · go_wp2
    go_ret
    exact ⟨ret_bool (by rw [Hpo.out, ho, hi, decide_eq_true Hs.out, decide_eq_true ha, decide_eq_true hb, decide_eq_false (Nat.not_le.2 hd)]; rfl), HB.out⟩
  go_wp2
  clear k0 k5 k10 k11 k12
  go_loopw [3] (fun i w1 => ∃ j : Nat, j ≤ n10 ∧ i = .int .i64 j ∧ Blk w1 w.heap.size [.int .i64 x.xOut.xStreams, .int .i64 x.xOut.xNext, v2, v3, v4, .int .i64 x.xIn.xStreams, .int .i64 x.xIn.xCum, v7, v8, v9, .slice A10 n10 q10, .slice A11 n11 q11, .slice A12 n12 q12] ∧ Below w.heap.size w w1 ∧ UpTo (fun _ a => airOk a) x.xAir j) (fun i _ => n10 - (intOf i).toNat)
  case atStart => exact ⟨0, by omega, rfl, K.out, HB.out, UpTo.zero⟩
  case round =>
    obtain ⟨j, hj, rfl, hk1, hb1, hu⟩ := hrel
    have Hu := Lib.hid hu
    have K := Lib.hid hk1
    have HB := Lib.hid hb1
    clear hu hk1 hb1
    have k10 := K.out.at (i := 10) rfl
    by_cases hlt : j < n10
    · obtain ⟨ad, cs, hk, rfl, hcl, hca, hE⟩ := RdS.at_ (H10.out.below HB.out) hlt
      have HE := Lib.hid hE
      obtain ⟨u7, u9, rfl, g7, g9⟩ := hE
      obtain ⟨B7, e7, rfl⟩ := g7.slice
      obtain ⟨B9, e9, rfl⟩ := RdS.slice g9
      clear g7 g9
      have c0 := hca.c0
      have c1 := hca.ci 0 rfl
      have c2 := hca.ci 1 rfl
      have c3 := hca.ci 2 rfl
      have c4 := hca.ci 3 rfl
      have c5 := hca.ci 4 rfl
      have c6 := hca.ci 5 rfl
      have c7 := hca.ci 6 rfl
      have c8 := hca.ci 7 rfl
      have c9 := hca.ci 8 rfl
      clear hca hcl
      go_wp2_with fail
      refine (l10AirOk_r _ x.xAir[j] _ HE.out).mono ?_
      rintro e w2 ⟨rfl, b2⟩
      replace K := Lib.hid (K.out.keep b2)
      replace HB := Lib.hid (HB.out.trans (b2.mono HB.out.size))
      clear b2 c0 c1 c2 c3 c4 c5 c6 c7 c8 c9 k10
      rcases h5 : airOk x.xAir[j] with _ | _
      · go_wp2
        go_ret
        exact ⟨ret_bool (by have hb := allI_bad (p := fun _ a => airOk a) hk h5; rw [Hpo.out, hb]; simp), HB.out⟩
      · go_wp2
        exact ⟨⟨j + 1, by omega, by go_num, K.out, HB.out, Hu.out.succ hk h5⟩, by simp [intOf]; omega⟩
    · go_wp2
      go_ret
      exact ⟨ret_bool (by have h := Hu.out.done (by rw [Hl10.out]; omega); rw [Hpo.out, ho, hi, decide_eq_true Hs.out, decide_eq_true ha, decide_eq_true hb, decide_eq_true hd, h]; rfl), HB.out⟩
set_option maxRecDepth 100000 in
set_option maxHeartbeats 2000000 in
theorem implDatPipeOk_r (cs : List Value) (x : DDatPipe) (w : World) (h : FDatPipe w cs x) : Calls Try.prog 79 #[.agg cs.toArray] w fun e w' => e = .returned (.bool (pipeOk x)) ∧ Below w.heap.size w w' := by
  obtain ⟨v2, v3, v4, v7, v8, v9, v10, v11, v12, rfl, h2, h3, h4, h7, h8, h9, h10, h11, h12⟩ := h
  obtain ⟨A10, q10, rfl⟩ := RdS.slice h10
  obtain ⟨A11, q11, rfl⟩ := RdS.slice h11
  obtain ⟨A12, q12, rfl⟩ := RdS.slice h12
  have hc10 := RdS.cap h10
  have hc11 := RdS.cap h11
  have hc12 := RdS.cap h12
  have HO := Lib.hid (show FDatOut w [.int .i64 x.xOut.xStreams, .int .i64 x.xOut.xNext, v2, v3, v4] x.xOut from ⟨_, _, _, rfl, h2, h3, h4⟩)
  have HI := Lib.hid (show FDatIn w [.int .i64 x.xIn.xStreams, .int .i64 x.xIn.xCum, v7, v8, v9] x.xIn from ⟨_, _, _, rfl, h7, h8, h9⟩)
  have H10 := Lib.hid h10
  clear h2 h3 h4 h7 h8 h9 h10 h11 h12
  have Hpo := Lib.hid (show pipeOk x = (outOk x.xOut && (inOk x.xIn && (decide (x.xOut.xStreams = x.xIn.xStreams) && (decide (x.xAir.length ≤ 16) && (decide (x.xGiven.length ≤ 30) && (decide (x.xGot.length ≤ 30) && allI (fun _ a => airOk a) x.xAir)))))) from rfl)
  generalize hl10 : x.xAir.length = n10 at *
  generalize x.xGiven.length = n11 at *
  generalize x.xGot.length = n12 at *
  have Hl10 := Lib.hid hl10
  clear hl10
  have K := Lib.hid (Blk.new (w := w) (b := w.heap.size) #[.int .i64 x.xOut.xStreams, .int .i64 x.xOut.xNext, v2, v3, v4, .int .i64 x.xIn.xStreams, .int .i64 x.xIn.xCum, v7, v8, v9, .slice A10 n10 q10, .slice A11 n11 q11, .slice A12 n12 q12] 106 rfl)
  have HB := Lib.hid ((Below.refl w.heap.size w).alloc (Nat.le_refl _) (.cells #[.int .i64 x.xOut.xStreams, .int .i64 x.xOut.xNext, v2, v3, v4, .int .i64 x.xIn.xStreams, .int .i64 x.xIn.xCum, v7, v8, v9, .slice A10 n10 q10, .slice A11 n11 q11, .slice A12 n12 q12] 106))
  go_enter Try.func79, Try.ntmps79
  go_wp2_with fail
  refine (implDatOutOk_r _ x.xOut _ (HO.out.below HB.out)).mono ?_
  rintro e w1 ⟨rfl, b1⟩
  replace K := Lib.hid (K.out.keep b1)
  replace HB := Lib.hid (HB.out.trans (b1.mono HB.out.size))
  clear b1
  rcases ho : outOk x.xOut with _ | _
  · go_wp2
    go_ret
    exact ⟨ret_bool (by rw [Hpo.out, ho]; rfl), HB.out⟩
  have k5 := K.out.at (i := 5) rfl
  have k6 := K.out.at (i := 6) rfl
  have k7 := K.out.at (i := 7) rfl
  have k8 := K.out.at (i := 8) rfl
  have k9 := K.out.at (i := 9) rfl
  go_wp2_with fail
  refine (implDatInOk_r _ x.xIn _ (HI.out.below HB.out)).mono ?_
  rintro e w1 ⟨rfl, b1⟩
  replace K := Lib.hid (K.out.keep b1)
  replace HB := Lib.hid (HB.out.trans (b1.mono HB.out.size))
  clear b1 k5 k6 k7 k8 k9
  rcases hi : inOk x.xIn with _ | _
  · go_wp2
    go_ret
    exact ⟨ret_bool (by rw [Hpo.out, ho, hi]; rfl), HB.out⟩
  have k0 := K.out.at (i := 0) rfl
  have k5 := K.out.at (i := 5) rfl
  have k10 := K.out.at (i := 10) rfl
  have k11 := K.out.at (i := 11) rfl
  have k12 := K.out.at (i := 12) rfl
  by_cases hs : x.xOut.xStreams = x.xIn.xStreams
  rotate_left
  · have hs' : (x.xOut.xStreams != x.xIn.xStreams) = true := by simpa using hs
    have Hs := Lib.hid hs
    clear hs
    go_wp2
    go_ret
    exact ⟨ret_bool (by rw [Hpo.out, ho, hi, decide_eq_false Hs.out]; rfl), HB.out⟩
  have hs' : (x.xOut.xStreams != x.xIn.xStreams) = false := by simpa using hs
  have Hs := Lib.hid hs
  clear hs
  rcases Nat.lt_or_ge 16 n10 with ha | ha
  · go_wp2
    go_ret
    exact ⟨ret_bool (by rw [Hpo.out, ho, hi, decide_eq_true Hs.out, decide_eq_false (Nat.not_le.2 ha)]; rfl), HB.out⟩
  rcases Nat.lt_or_ge 30 n11 with hb | hb
  · go_wp2
    go_ret
    exact ⟨ret_bool (by rw [Hpo.out, ho, hi, decide_eq_true Hs.out, decide_eq_true ha, decide_eq_false (Nat.not_le.2 hb)]; rfl), HB.out⟩
  rcases Nat.lt_or_ge 30 n12 with hd | hd
  · go_wp2
    go_ret
    exact ⟨ret_bool (by rw [Hpo.out, ho, hi, decide_eq_true Hs.out, decide_eq_true ha, decide_eq_true hb, decide_eq_false (Nat.not_le.2 hd)]; rfl), HB.out⟩
  go_wp2
  clear k0 k5 k10 k11 k12
  go_loopw [43] (fun i w1 => ∃ j : Nat, j ≤ n10 ∧ i = .int .i64 j ∧ Blk w1 w.heap.size [.int .i64 x.xOut.xStreams, .int .i64 x.xOut.xNext, v2, v3, v4, .int .i64 x.xIn.xStreams, .int .i64 x.xIn.xCum, v7, v8, v9, .slice A10 n10 q10, .slice A11 n11 q11, .slice A12 n12 q12] ∧ Below w.heap.size w w1 ∧ UpTo (fun _ a => airOk a) x.xAir j) (fun i _ => n10 - (intOf i).toNat)
  case atStart => exact ⟨0, by omega, rfl, K.out, HB.out, UpTo.zero⟩
  case round =>
    obtain ⟨j, hj, rfl, hk1, hb1, hu⟩ := hrel
    have Hu := Lib.hid hu
    have K := Lib.hid hk1
    have HB := Lib.hid hb1
    clear hu hk1 hb1
    have k10 := K.out.at (i := 10) rfl
    by_cases hlt : j < n10
    · obtain ⟨ad, cs, hk, rfl, hcl, hca, hE⟩ := RdS.at_ (H10.out.below HB.out) hlt
      have HE := Lib.hid hE
      obtain ⟨u7, u9, rfl, g7, g9⟩ := hE
      obtain ⟨B7, e7, rfl⟩ := g7.slice
      obtain ⟨B9, e9, rfl⟩ := RdS.slice g9
      clear g7 g9
      have c0 := hca.c0
      have c1 := hca.ci 0 rfl
      have c2 := hca.ci 1 rfl
      have c3 := hca.ci 2 rfl
      have c4 := hca.ci 3 rfl
      have c5 := hca.ci 4 rfl
      have c6 := hca.ci 5 rfl
      have c7 := hca.ci 6 rfl
      have c8 := hca.ci 7 rfl
      have c9 := hca.ci 8 rfl
      clear hca hcl
      have KS := Lib.hid (Blk.new (w := wr) (b := wr.heap.size) #[.bool x.xAir[j].xAnswer, .int .i64 x.xAir[j].xPiece.xTsn, .int .i64 x.xAir[j].xPiece.xStream, .int .i64 x.xAir[j].xPiece.xSsn, .bool x.xAir[j].xPiece.xFirst, .bool x.xAir[j].xPiece.xLast, .bool x.xAir[j].xPiece.xLoose, .slice B7 x.xAir[j].xPiece.xBody.length e7, .int .i64 x.xAir[j].xCum, .slice B9 x.xAir[j].xGaps.length e9] 212 rfl)
      replace HE := Lib.hid (HE.out.below ((Below.refl _ _).alloc (Nat.le_refl _) (.cells #[.bool x.xAir[j].xAnswer, .int .i64 x.xAir[j].xPiece.xTsn, .int .i64 x.xAir[j].xPiece.xStream, .int .i64 x.xAir[j].xPiece.xSsn, .bool x.xAir[j].xPiece.xFirst, .bool x.xAir[j].xPiece.xLast, .bool x.xAir[j].xPiece.xLoose, .slice B7 x.xAir[j].xPiece.xBody.length e7, .int .i64 x.xAir[j].xCum, .slice B9 x.xAir[j].xGaps.length e9] 212)))
      replace K := Lib.hid (K.out.alloc (.cells #[.bool x.xAir[j].xAnswer, .int .i64 x.xAir[j].xPiece.xTsn, .int .i64 x.xAir[j].xPiece.xStream, .int .i64 x.xAir[j].xPiece.xSsn, .bool x.xAir[j].xPiece.xFirst, .bool x.xAir[j].xPiece.xLast, .bool x.xAir[j].xPiece.xLoose, .slice B7 x.xAir[j].xPiece.xBody.length e7, .int .i64 x.xAir[j].xCum, .slice B9 x.xAir[j].xGaps.length e9] 212))
      replace HB := Lib.hid (HB.out.alloc HB.out.size (.cells #[.bool x.xAir[j].xAnswer, .int .i64 x.xAir[j].xPiece.xTsn, .int .i64 x.xAir[j].xPiece.xStream, .int .i64 x.xAir[j].xPiece.xSsn, .bool x.xAir[j].xPiece.xFirst, .bool x.xAir[j].xPiece.xLast, .bool x.xAir[j].xPiece.xLoose, .slice B7 x.xAir[j].xPiece.xBody.length e7, .int .i64 x.xAir[j].xCum, .slice B9 x.xAir[j].xGaps.length e9] 212))
      go_wp2_with fail
      refine (datAirOk_r _ x.xAir[j] _ HE.out).mono ?_
      rintro e w2 ⟨rfl, b2⟩
      replace K := Lib.hid (K.out.keep b2)
      replace HB := Lib.hid (HB.out.trans (b2.mono HB.out.size))
      clear b2 c0 c1 c2 c3 c4 c5 c6 c7 c8 c9 k10
      rcases h5 : airOk x.xAir[j] with _ | _
      · go_wp2
        go_ret
        exact ⟨ret_bool (by have hb := allI_bad (p := fun _ a => airOk a) hk h5; rw [Hpo.out, hb]; simp), HB.out⟩
      · go_wp2
        exact ⟨⟨j + 1, by omega, by go_num, K.out, HB.out, Hu.out.succ hk h5⟩, by simp [intOf]; omega⟩
    · go_wp2
      go_ret
      exact ⟨ret_bool (by have h := Hu.out.done (by rw [Hl10.out]; omega); rw [Hpo.out, ho, hi, decide_eq_true Hs.out, decide_eq_true ha, decide_eq_true hb, decide_eq_true hd, h]; rfl), HB.out⟩
end Go.Proofs.Ytcflkcjicaieeaa
