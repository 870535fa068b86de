/-
  Is a sending side ok? The model's answer. (Written by wip/tools/genoutok.py.)
-/
import Derived.Test.YthdjjgbjemaabaaOutOk
namespace Go.Proofs.Ythdjjgbjemaabaa
open Go.ChangeShapes Go.WideShapes Go.ChangeAt Go.RowKit
set_option linter.unusedVariables false
set_option linter.unusedSimpArgs false

theorem ssns_streams {streams : Int} {ssns : List Int} (h : ssnsOk streams ssns = true) : 1 ≤ streams ∧ streams ≤ 8 := by
  simp only [ssnsOk, Bool.and_eq_true] at h
  exact inB_iff.1 h.1
set_option maxRecDepth 100000 in
set_option maxHeartbeats 4000000 in
theorem specDatOutOk_r (cs : List Value) (x : DDatOut) (w : World) (h : FDatOut w cs x) : Calls Try.prog 180 #[.agg cs.toArray] w fun e w' => e = .returned (.bool (outOk x)) ∧ Below w.heap.size w w' := by
  obtain ⟨v2, v3, v4, rfl, h2, h3, h4⟩ := h
  obtain ⟨A2, q2, rfl⟩ := RdS.slice h2
  obtain ⟨A3, q3, rfl⟩ := RdS.slice h3
  obtain ⟨A4, q4, rfl⟩ := h4.slice
  have hc2 := RdS.cap h2
  have hc3 := RdS.cap h3
  have H2 := Lib.hid h2
  have H3 := Lib.hid h3
  have H4 := Lib.hid h4
  clear h2 h3 h4
  have hout : outOk x = (ssnsOk x.xStreams x.xSsns && (inB x.xNext 0 4294967295 && (decide (x.xFlight.length ≤ 8) && (decide (x.xQueue.length ≤ 12) && (allI (sentOk x) x.xFlight && allI (queuedOk x) x.xQueue))))) := rfl
  have hsent : ∀ j s, sentOk x j s = (pieceOk s.xPiece x.xStreams && (decide (s.xPiece.xTsn = addF x.xNext (j - x.xFlight.length) 32) && (inB s.xTimes 1 1000000 && (inB s.xMark 0 1000000 && !(j == 0 && s.xAcked))))) := fun _ _ => rfl
  have hqd : ∀ j u, queuedOk x j u = (unitOk1 u && decide (u.xStream < x.xStreams)) := fun _ _ => rfl
  generalize hl2 : x.xFlight.length = n2 at *
  generalize hl3 : x.xQueue.length = n3 at *
  have Hl2 := Lib.hid hl2
  have Hl3 := Lib.hid hl3
  have Hout := Lib.hid hout
  have Hsent := Lib.hid hsent
  have Hqd := Lib.hid hqd
  clear hl2 hl3 hout hsent hqd
  have K := Lib.hid (Blk.new (w := w) (b := w.heap.size) #[.int .i64 x.xStreams, .int .i64 x.xNext, .slice A2 n2 q2, .slice A3 n3 q3, .slice A4 x.xSsns.length q4] 84 rfl)
  have HB := Lib.hid ((Below.refl w.heap.size w).alloc (Nat.le_refl _) (.cells #[.int .i64 x.xStreams, .int .i64 x.xNext, .slice A2 n2 q2, .slice A3 n3 q3, .slice A4 x.xSsns.length q4] 84))
  rcases h1 : ssnsOk x.xStreams x.xSsns with _ | _
  · go_enter Try.func180, Try.ntmps180
    go_wp2_with (go_at_call 253; refine (l8Ssns_any _ x.xSsns _ _ (H4.out.below HB.out)).mono ?_; rintro e w' ⟨rfl, rfl⟩; rw [h1])
    go_ret
    exact ⟨ret_bool (by rw [Hout.out, h1]; rfl), HB.out⟩
  have hst := ssns_streams h1
  rcases hn : inB x.xNext 0 4294967295 with _ | _
  · go_enter Try.func180, Try.ntmps180
    go_wp2_with (first | (go_at_call 253; refine (l8Ssns_any _ x.xSsns _ _ (H4.out.below HB.out)).mono ?_; rintro e w' ⟨rfl, rfl⟩; rw [h1]) | (go_at_call 145; refine (l4Long_any _ _).mono ?_; rintro e w' ⟨rfl, rfl⟩; rw [hn]))
    go_ret
    exact ⟨ret_bool (by rw [Hout.out, h1, hn]; rfl), HB.out⟩
  rcases Nat.lt_or_ge 8 n2 with hf | hf
  · go_enter Try.func180, Try.ntmps180
    go_wp2_with (first | (go_at_call 253; refine (l8Ssns_any _ x.xSsns _ _ (H4.out.below HB.out)).mono ?_; rintro e w' ⟨rfl, rfl⟩; rw [h1]) | (go_at_call 145; refine (l4Long_any _ _).mono ?_; rintro e w' ⟨rfl, rfl⟩; rw [hn]))
    go_ret
    exact ⟨ret_bool (by rw [Hout.out, h1, hn, decide_eq_false (Nat.not_le.2 hf)]; rfl), HB.out⟩
  rcases Nat.lt_or_ge 12 n3 with hq | hq
  · go_enter Try.func180, Try.ntmps180
    go_wp2_with (first | (go_at_call 253; refine (l8Ssns_any _ x.xSsns _ _ (H4.out.below HB.out)).mono ?_; rintro e w' ⟨rfl, rfl⟩; rw [h1]) | (go_at_call 145; refine (l4Long_any _ _).mono ?_; rintro e w' ⟨rfl, rfl⟩; rw [hn]))
    go_ret
    exact ⟨ret_bool (by rw [Hout.out, h1, hn, decide_eq_true hf, decide_eq_false (Nat.not_le.2 hq)]; rfl), HB.out⟩
  go_enter Try.func180, Try.ntmps180
  go_wp2_with (first | (go_at_call 253; refine (l8Ssns_any _ x.xSsns _ _ (H4.out.below HB.out)).mono ?_; rintro e w' ⟨rfl, rfl⟩; rw [h1]) | (go_at_call 145; refine (l4Long_any _ _).mono ?_; rintro e w' ⟨rfl, rfl⟩; rw [hn]))
  go_loopw [3] (fun i w1 => ∃ j : Nat, j ≤ n2 ∧ i = .int .i64 j ∧ Blk w1 w.heap.size [.int .i64 x.xStreams, .int .i64 x.xNext, .slice A2 n2 q2, .slice A3 n3 q3, .slice A4 x.xSsns.length q4] ∧ Below w.heap.size w w1 ∧ UpTo (sentOk x) x.xFlight j) (fun i _ => n2 - (intOf i).toNat)
  case atStart => exact ⟨0, by omega, rfl, K.out, HB.out, UpTo.zero⟩
  case round =>
    obtain ⟨j, hj, rfl, hk1, hb1, hu⟩ := hrel
    have Hu := Lib.hid hu
    have K1 := Lib.hid hk1
    have HB1 := Lib.hid hb1
    clear hu hk1 hb1
    have o2 := K1.out.at (i := 2) rfl
    by_cases hlt : j < n2
    · obtain ⟨ad, cs, hk, rfl, hcl, hca, hE⟩ := RdS.at_ (H2.out.below HB1.out) hlt
      have HE := Lib.hid hE
      obtain ⟨v7, rfl, h7⟩ := hE
      obtain ⟨A7, q7, rfl⟩ := h7.slice
      have H7 := Lib.hid h7
      have c0 := hca.c0
      have c1 := hca.ci 0 rfl
      have c2 := hca.ci 1 rfl
      have c3 := hca.ci 2 rfl
      have c4 := hca.ci 3 rfl
      have c5 := hca.ci 4 rfl
      have c6 := hca.ci 5 rfl
      have c7 := hca.ci 6 rfl
      have c8 := hca.ci 7 rfl
      have c9 := hca.ci 8 rfl
      clear hca hcl h7
      have hsub : IntKind.i64.wrap ((j : Int) - (n2 : Int)) = (j : Int) - (n2 : Int) := IntWalk.i64_in _ (by omega)
      go_wp2_with fail
      generalize hw2 : World.alloc wr _ = w2
      have KO := Lib.hid (show Blk w2 w.heap.size [.int .i64 x.xStreams, .int .i64 x.xNext, .slice (some ad) n2 q2, .slice A3 n3 q3, .slice A4 x.xSsns.length q4] by rw [← hw2]; exact K1.out.alloc _)
      have KS := Lib.hid (show Blk w2 wr.heap.size [.int .i64 x.xFlight[j].xMark, .int .i64 x.xFlight[j].xPiece.xTsn, .int .i64 x.xFlight[j].xPiece.xStream, .int .i64 x.xFlight[j].xPiece.xSsn, .bool x.xFlight[j].xPiece.xFirst, .bool x.xFlight[j].xPiece.xLast, .bool x.xFlight[j].xPiece.xLoose, .slice A7 x.xFlight[j].xPiece.xBody.length q7, .int .i64 x.xFlight[j].xTimes, .bool x.xFlight[j].xAcked] by rw [← hw2]; exact Blk.new _ _ rfl)
      have HE2 := Lib.hid (show RdB w2 (.slice A7 x.xFlight[j].xPiece.xBody.length q7) x.xFlight[j].xPiece.xBody by rw [← hw2]; exact H7.out.below ((Below.refl _ _).alloc (Nat.le_refl _) _))
      have HB2 := Lib.hid (show Below w.heap.size w w2 by rw [← hw2]; exact HB1.out.alloc HB1.out.size _)
      clear hw2 o2 c0 c1 c2 c3 c4 c5 c6 c7 c8 c9
      have hsj := Hsent.out j x.xFlight[j]
      generalize hsk : sentOk x j x.xFlight[j] = sk at hsj
      have Hsk := Lib.hid hsk
      have Hsj := Lib.hid hsj
      clear hsk hsj
      rcases h5 : pieceOk x.xFlight[j].xPiece x.xStreams with _ | _
      · refine wp_region_steady (fun y => Blk y w.heap.size [.int .i64 x.xStreams, .int .i64 x.xNext, .slice (some ad) n2 q2, .slice A3 n3 q3, .slice A4 x.xSsns.length q4] ∧ Blk y wr.heap.size [.int .i64 x.xFlight[j].xMark, .int .i64 x.xFlight[j].xPiece.xTsn, .int .i64 x.xFlight[j].xPiece.xStream, .int .i64 x.xFlight[j].xPiece.xSsn, .bool x.xFlight[j].xPiece.xFirst, .bool x.xFlight[j].xPiece.xLast, .bool x.xFlight[j].xPiece.xLoose, .slice A7 x.xFlight[j].xPiece.xBody.length q7, .int .i64 x.xFlight[j].xTimes, .bool x.xFlight[j].xAcked] ∧ Below w2.heap.size w2 y) (by kernel_rfl) (by kernel_rfl) (⟨KO.out.drew, KS.out.drew, (Below.refl _ _).drew⟩) ?_
        repeat
          (first
            | (refine steady_no (by rfl) ?_)
            | (refine' steady_val (v := _) (by rfl) ?_ ?_
               rotate_left
               focus (intro y hS; have a0 := hS.1.at (i := 0) rfl; have a1 := hS.1.at (i := 1) rfl; have a2 := hS.1.at (i := 2) rfl; have a3 := hS.1.at (i := 3) rfl; have a4 := hS.1.at (i := 4) rfl; have b0 := hS.2.1.at (i := 0) rfl; have b1 := hS.2.1.at (i := 1) rfl; have b2 := hS.2.1.at (i := 2) rfl; have b3 := hS.2.1.at (i := 3) rfl; have b4 := hS.2.1.at (i := 4) rfl; have b5 := hS.2.1.at (i := 5) rfl; have b6 := hS.2.1.at (i := 6) rfl; have b7 := hS.2.1.at (i := 7) rfl; have b8 := hS.2.1.at (i := 8) rfl; have b9 := hS.2.1.at (i := 9) rfl; clear hS; go_simp; first | done | with_reducible rfl))
            | (refine' steady_call (f := _) (args := _) _ (by rfl) ?_ ?_ ?_
               rotate_left 3
               focus (intro y hS; have a0 := hS.1.at (i := 0) rfl; have a1 := hS.1.at (i := 1) rfl; have a2 := hS.1.at (i := 2) rfl; have a3 := hS.1.at (i := 3) rfl; have a4 := hS.1.at (i := 4) rfl; have b0 := hS.2.1.at (i := 0) rfl; have b1 := hS.2.1.at (i := 1) rfl; have b2 := hS.2.1.at (i := 2) rfl; have b3 := hS.2.1.at (i := 3) rfl; have b4 := hS.2.1.at (i := 4) rfl; have b5 := hS.2.1.at (i := 5) rfl; have b6 := hS.2.1.at (i := 6) rfl; have b7 := hS.2.1.at (i := 7) rfl; have b8 := hS.2.1.at (i := 8) rfl; have b9 := hS.2.1.at (i := 9) rfl; clear hS; go_simp; first | done | with_reducible rfl | (refine ⟨?_, ?_⟩ <;> with_reducible rfl))
               focus (intro y hS; first
                | (refine (l8PieceOk_r _ x.xFlight[j].xPiece _ y ⟨_, rfl, HE2.out.below hS.2.2⟩ hst).mono ?_; rintro e y' ⟨rfl, hb⟩; exact ⟨by rw [h5], ⟨hS.1.keep hb, hS.2.1.keep hb, belowOn hS.2.2 hS.2.2.size hb⟩⟩)
                | (refine (specAdd_any _ _ _ y).mono ?_; rintro e y' ⟨rfl, rfl⟩; exact ⟨by with_reducible rfl, hS⟩)
                | (refine (l1In_any _ _ _ y).mono ?_; rintro e y' ⟨rfl, rfl⟩; exact ⟨by first | rw [h7] | rw [h8], hS⟩)))
           simp only [Act.put, List.setIfInBounds_toArray, List.set_cons_zero, List.set_cons_succ])
        refine steady_nil ?_
        intro w3 hS3
        have hfin : Below w.heap.size w w3 := belowOn HB2.out HB2.out.size hS3.2.2
        have Hfin := Lib.hid hfin
        clear hS3 hfin
        go_wp2
        go_ret
        exact ⟨ret_bool (by have hb := allI_bad hk (Hsk.out.trans (by rw [Hsj.out]; simp [h5])); rw [Hout.out, hb]; simp), Hfin.out⟩
      rcases Bool.eq_false_or_eq_true (x.xFlight[j].xPiece.xTsn != addF x.xNext ((j : Int) - (n2 : Int)) 32) with h6 | h6
      · refine wp_region_steady (fun y => Blk y w.heap.size [.int .i64 x.xStreams, .int .i64 x.xNext, .slice (some ad) n2 q2, .slice A3 n3 q3, .slice A4 x.xSsns.length q4] ∧ Blk y wr.heap.size [.int .i64 x.xFlight[j].xMark, .int .i64 x.xFlight[j].xPiece.xTsn, .int .i64 x.xFlight[j].xPiece.xStream, .int .i64 x.xFlight[j].xPiece.xSsn, .bool x.xFlight[j].xPiece.xFirst, .bool x.xFlight[j].xPiece.xLast, .bool x.xFlight[j].xPiece.xLoose, .slice A7 x.xFlight[j].xPiece.xBody.length q7, .int .i64 x.xFlight[j].xTimes, .bool x.xFlight[j].xAcked] ∧ Below w2.heap.size w2 y) (by kernel_rfl) (by kernel_rfl) (⟨KO.out.drew, KS.out.drew, (Below.refl _ _).drew⟩) ?_
        repeat
          (first
            | (refine steady_no (by rfl) ?_)
            | (refine' steady_val (v := _) (by rfl) ?_ ?_
               rotate_left
               focus (intro y hS; have a0 := hS.1.at (i := 0) rfl; have a1 := hS.1.at (i := 1) rfl; have a2 := hS.1.at (i := 2) rfl; have a3 := hS.1.at (i := 3) rfl; have a4 := hS.1.at (i := 4) rfl; have b0 := hS.2.1.at (i := 0) rfl; have b1 := hS.2.1.at (i := 1) rfl; have b2 := hS.2.1.at (i := 2) rfl; have b3 := hS.2.1.at (i := 3) rfl; have b4 := hS.2.1.at (i := 4) rfl; have b5 := hS.2.1.at (i := 5) rfl; have b6 := hS.2.1.at (i := 6) rfl; have b7 := hS.2.1.at (i := 7) rfl; have b8 := hS.2.1.at (i := 8) rfl; have b9 := hS.2.1.at (i := 9) rfl; clear hS; go_simp; first | done | with_reducible rfl))
            | (refine' steady_call (f := _) (args := _) _ (by rfl) ?_ ?_ ?_
               rotate_left 3
               focus (intro y hS; have a0 := hS.1.at (i := 0) rfl; have a1 := hS.1.at (i := 1) rfl; have a2 := hS.1.at (i := 2) rfl; have a3 := hS.1.at (i := 3) rfl; have a4 := hS.1.at (i := 4) rfl; have b0 := hS.2.1.at (i := 0) rfl; have b1 := hS.2.1.at (i := 1) rfl; have b2 := hS.2.1.at (i := 2) rfl; have b3 := hS.2.1.at (i := 3) rfl; have b4 := hS.2.1.at (i := 4) rfl; have b5 := hS.2.1.at (i := 5) rfl; have b6 := hS.2.1.at (i := 6) rfl; have b7 := hS.2.1.at (i := 7) rfl; have b8 := hS.2.1.at (i := 8) rfl; have b9 := hS.2.1.at (i := 9) rfl; clear hS; go_simp; first | done | with_reducible rfl | (refine ⟨?_, ?_⟩ <;> with_reducible rfl))
               focus (intro y hS; first
                | (refine (l8PieceOk_r _ x.xFlight[j].xPiece _ y ⟨_, rfl, HE2.out.below hS.2.2⟩ hst).mono ?_; rintro e y' ⟨rfl, hb⟩; exact ⟨by rw [h5], ⟨hS.1.keep hb, hS.2.1.keep hb, belowOn hS.2.2 hS.2.2.size hb⟩⟩)
                | (refine (specAdd_any _ _ _ y).mono ?_; rintro e y' ⟨rfl, rfl⟩; exact ⟨by with_reducible rfl, hS⟩)
                | (refine (l1In_any _ _ _ y).mono ?_; rintro e y' ⟨rfl, rfl⟩; exact ⟨by first | rw [h7] | rw [h8], hS⟩)))
           simp only [Act.put, List.setIfInBounds_toArray, List.set_cons_zero, List.set_cons_succ])
        refine steady_nil ?_
        have h6' : ¬ x.xFlight[j].xPiece.xTsn = addF x.xNext ((j : Int) - (n2 : Int)) 32 := by simpa using h6
        intro w3 hS3
        have hfin : Below w.heap.size w w3 := belowOn HB2.out HB2.out.size hS3.2.2
        have Hfin := Lib.hid hfin
        clear hS3 hfin
        go_wp2
        go_ret
        exact ⟨ret_bool (by have hb := allI_bad hk (Hsk.out.trans (by rw [Hsj.out]; simp [h5, h6'])); rw [Hout.out, hb]; simp), Hfin.out⟩
      rcases h7 : inB x.xFlight[j].xTimes 1 1000000 with _ | _
      · refine wp_region_steady (fun y => Blk y w.heap.size [.int .i64 x.xStreams, .int .i64 x.xNext, .slice (some ad) n2 q2, .slice A3 n3 q3, .slice A4 x.xSsns.length q4] ∧ Blk y wr.heap.size [.int .i64 x.xFlight[j].xMark, .int .i64 x.xFlight[j].xPiece.xTsn, .int .i64 x.xFlight[j].xPiece.xStream, .int .i64 x.xFlight[j].xPiece.xSsn, .bool x.xFlight[j].xPiece.xFirst, .bool x.xFlight[j].xPiece.xLast, .bool x.xFlight[j].xPiece.xLoose, .slice A7 x.xFlight[j].xPiece.xBody.length q7, .int .i64 x.xFlight[j].xTimes, .bool x.xFlight[j].xAcked] ∧ Below w2.heap.size w2 y) (by kernel_rfl) (by kernel_rfl) (⟨KO.out.drew, KS.out.drew, (Below.refl _ _).drew⟩) ?_
        repeat
          (first
            | (refine steady_no (by rfl) ?_)
            | (refine' steady_val (v := _) (by rfl) ?_ ?_
               rotate_left
               focus (intro y hS; have a0 := hS.1.at (i := 0) rfl; have a1 := hS.1.at (i := 1) rfl; have a2 := hS.1.at (i := 2) rfl; have a3 := hS.1.at (i := 3) rfl; have a4 := hS.1.at (i := 4) rfl; have b0 := hS.2.1.at (i := 0) rfl; have b1 := hS.2.1.at (i := 1) rfl; have b2 := hS.2.1.at (i := 2) rfl; have b3 := hS.2.1.at (i := 3) rfl; have b4 := hS.2.1.at (i := 4) rfl; have b5 := hS.2.1.at (i := 5) rfl; have b6 := hS.2.1.at (i := 6) rfl; have b7 := hS.2.1.at (i := 7) rfl; have b8 := hS.2.1.at (i := 8) rfl; have b9 := hS.2.1.at (i := 9) rfl; clear hS; go_simp; first | done | with_reducible rfl))
            | (refine' steady_call (f := _) (args := _) _ (by rfl) ?_ ?_ ?_
               rotate_left 3
               focus (intro y hS; have a0 := hS.1.at (i := 0) rfl; have a1 := hS.1.at (i := 1) rfl; have a2 := hS.1.at (i := 2) rfl; have a3 := hS.1.at (i := 3) rfl; have a4 := hS.1.at (i := 4) rfl; have b0 := hS.2.1.at (i := 0) rfl; have b1 := hS.2.1.at (i := 1) rfl; have b2 := hS.2.1.at (i := 2) rfl; have b3 := hS.2.1.at (i := 3) rfl; have b4 := hS.2.1.at (i := 4) rfl; have b5 := hS.2.1.at (i := 5) rfl; have b6 := hS.2.1.at (i := 6) rfl; have b7 := hS.2.1.at (i := 7) rfl; have b8 := hS.2.1.at (i := 8) rfl; have b9 := hS.2.1.at (i := 9) rfl; clear hS; go_simp; first | done | with_reducible rfl | (refine ⟨?_, ?_⟩ <;> with_reducible rfl))
               focus (intro y hS; first
                | (refine (l8PieceOk_r _ x.xFlight[j].xPiece _ y ⟨_, rfl, HE2.out.below hS.2.2⟩ hst).mono ?_; rintro e y' ⟨rfl, hb⟩; exact ⟨by rw [h5], ⟨hS.1.keep hb, hS.2.1.keep hb, belowOn hS.2.2 hS.2.2.size hb⟩⟩)
                | (refine (specAdd_any _ _ _ y).mono ?_; rintro e y' ⟨rfl, rfl⟩; exact ⟨by with_reducible rfl, hS⟩)
                | (refine (l1In_any _ _ _ y).mono ?_; rintro e y' ⟨rfl, rfl⟩; exact ⟨by first | rw [h7] | rw [h8], hS⟩)))
           simp only [Act.put, List.setIfInBounds_toArray, List.set_cons_zero, List.set_cons_succ])
        refine steady_nil ?_
        intro w3 hS3
        have hfin : Below w.heap.size w w3 := belowOn HB2.out HB2.out.size hS3.2.2
        have Hfin := Lib.hid hfin
        clear hS3 hfin
        go_wp2
        go_ret
        exact ⟨ret_bool (by have hb := allI_bad hk (Hsk.out.trans (by rw [Hsj.out]; simp [h5, h6, h7])); rw [Hout.out, hb]; simp), Hfin.out⟩
      rcases h8 : inB x.xFlight[j].xMark 0 1000000 with _ | _
      · refine wp_region_steady (fun y => Blk y w.heap.size [.int .i64 x.xStreams, .int .i64 x.xNext, .slice (some ad) n2 q2, .slice A3 n3 q3, .slice A4 x.xSsns.length q4] ∧ Blk y wr.heap.size [.int .i64 x.xFlight[j].xMark, .int .i64 x.xFlight[j].xPiece.xTsn, .int .i64 x.xFlight[j].xPiece.xStream, .int .i64 x.xFlight[j].xPiece.xSsn, .bool x.xFlight[j].xPiece.xFirst, .bool x.xFlight[j].xPiece.xLast, .bool x.xFlight[j].xPiece.xLoose, .slice A7 x.xFlight[j].xPiece.xBody.length q7, .int .i64 x.xFlight[j].xTimes, .bool x.xFlight[j].xAcked] ∧ Below w2.heap.size w2 y) (by kernel_rfl) (by kernel_rfl) (⟨KO.out.drew, KS.out.drew, (Below.refl _ _).drew⟩) ?_
        repeat
          (first
            | (refine steady_no (by rfl) ?_)
            | (refine' steady_val (v := _) (by rfl) ?_ ?_
               rotate_left
               focus (intro y hS; have a0 := hS.1.at (i := 0) rfl; have a1 := hS.1.at (i := 1) rfl; have a2 := hS.1.at (i := 2) rfl; have a3 := hS.1.at (i := 3) rfl; have a4 := hS.1.at (i := 4) rfl; have b0 := hS.2.1.at (i := 0) rfl; have b1 := hS.2.1.at (i := 1) rfl; have b2 := hS.2.1.at (i := 2) rfl; have b3 := hS.2.1.at (i := 3) rfl; have b4 := hS.2.1.at (i := 4) rfl; have b5 := hS.2.1.at (i := 5) rfl; have b6 := hS.2.1.at (i := 6) rfl; have b7 := hS.2.1.at (i := 7) rfl; have b8 := hS.2.1.at (i := 8) rfl; have b9 := hS.2.1.at (i := 9) rfl; clear hS; go_simp; first | done | with_reducible rfl))
            | (refine' steady_call (f := _) (args := _) _ (by rfl) ?_ ?_ ?_
               rotate_left 3
               focus (intro y hS; have a0 := hS.1.at (i := 0) rfl; have a1 := hS.1.at (i := 1) rfl; have a2 := hS.1.at (i := 2) rfl; have a3 := hS.1.at (i := 3) rfl; have a4 := hS.1.at (i := 4) rfl; have b0 := hS.2.1.at (i := 0) rfl; have b1 := hS.2.1.at (i := 1) rfl; have b2 := hS.2.1.at (i := 2) rfl; have b3 := hS.2.1.at (i := 3) rfl; have b4 := hS.2.1.at (i := 4) rfl; have b5 := hS.2.1.at (i := 5) rfl; have b6 := hS.2.1.at (i := 6) rfl; have b7 := hS.2.1.at (i := 7) rfl; have b8 := hS.2.1.at (i := 8) rfl; have b9 := hS.2.1.at (i := 9) rfl; clear hS; go_simp; first | done | with_reducible rfl | (refine ⟨?_, ?_⟩ <;> with_reducible rfl))
               focus (intro y hS; first
                | (refine (l8PieceOk_r _ x.xFlight[j].xPiece _ y ⟨_, rfl, HE2.out.below hS.2.2⟩ hst).mono ?_; rintro e y' ⟨rfl, hb⟩; exact ⟨by rw [h5], ⟨hS.1.keep hb, hS.2.1.keep hb, belowOn hS.2.2 hS.2.2.size hb⟩⟩)
                | (refine (specAdd_any _ _ _ y).mono ?_; rintro e y' ⟨rfl, rfl⟩; exact ⟨by with_reducible rfl, hS⟩)
                | (refine (l1In_any _ _ _ y).mono ?_; rintro e y' ⟨rfl, rfl⟩; exact ⟨by first | rw [h7] | rw [h8], hS⟩)))
           simp only [Act.put, List.setIfInBounds_toArray, List.set_cons_zero, List.set_cons_succ])
        refine steady_nil ?_
        intro w3 hS3
        have hfin : Below w.heap.size w w3 := belowOn HB2.out HB2.out.size hS3.2.2
        have Hfin := Lib.hid hfin
        clear hS3 hfin
        go_wp2
        go_ret
        exact ⟨ret_bool (by have hb := allI_bad hk (Hsk.out.trans (by rw [Hsj.out]; simp [h5, h6, h7, h8])); rw [Hout.out, hb]; simp), Hfin.out⟩
      have h6' : x.xFlight[j].xPiece.xTsn = addF x.xNext ((j : Int) - (n2 : Int)) 32 := by simpa using h6
      have H6 := Lib.hid h6'
      clear h6'
      rcases Bool.eq_false_or_eq_true ((j : Int) == 0) with h9 | h9
      · rcases h10 : x.xFlight[j].xAcked with _ | _
        · refine wp_region_steady (fun y => Blk y w.heap.size [.int .i64 x.xStreams, .int .i64 x.xNext, .slice (some ad) n2 q2, .slice A3 n3 q3, .slice A4 x.xSsns.length q4] ∧ Blk y wr.heap.size [.int .i64 x.xFlight[j].xMark, .int .i64 x.xFlight[j].xPiece.xTsn, .int .i64 x.xFlight[j].xPiece.xStream, .int .i64 x.xFlight[j].xPiece.xSsn, .bool x.xFlight[j].xPiece.xFirst, .bool x.xFlight[j].xPiece.xLast, .bool x.xFlight[j].xPiece.xLoose, .slice A7 x.xFlight[j].xPiece.xBody.length q7, .int .i64 x.xFlight[j].xTimes, .bool x.xFlight[j].xAcked] ∧ Below w2.heap.size w2 y) (by kernel_rfl) (by kernel_rfl) (⟨KO.out.drew, KS.out.drew, (Below.refl _ _).drew⟩) ?_
          repeat
            (first
              | (refine steady_no (by rfl) ?_)
              | (refine' steady_val (v := _) (by rfl) ?_ ?_
                 rotate_left
                 focus (intro y hS; have a0 := hS.1.at (i := 0) rfl; have a1 := hS.1.at (i := 1) rfl; have a2 := hS.1.at (i := 2) rfl; have a3 := hS.1.at (i := 3) rfl; have a4 := hS.1.at (i := 4) rfl; have b0 := hS.2.1.at (i := 0) rfl; have b1 := hS.2.1.at (i := 1) rfl; have b2 := hS.2.1.at (i := 2) rfl; have b3 := hS.2.1.at (i := 3) rfl; have b4 := hS.2.1.at (i := 4) rfl; have b5 := hS.2.1.at (i := 5) rfl; have b6 := hS.2.1.at (i := 6) rfl; have b7 := hS.2.1.at (i := 7) rfl; have b8 := hS.2.1.at (i := 8) rfl; have b9 := hS.2.1.at (i := 9) rfl; clear hS; go_simp; first | done | with_reducible rfl))
              | (refine' steady_call (f := _) (args := _) _ (by rfl) ?_ ?_ ?_
                 rotate_left 3
                 focus (intro y hS; have a0 := hS.1.at (i := 0) rfl; have a1 := hS.1.at (i := 1) rfl; have a2 := hS.1.at (i := 2) rfl; have a3 := hS.1.at (i := 3) rfl; have a4 := hS.1.at (i := 4) rfl; have b0 := hS.2.1.at (i := 0) rfl; have b1 := hS.2.1.at (i := 1) rfl; have b2 := hS.2.1.at (i := 2) rfl; have b3 := hS.2.1.at (i := 3) rfl; have b4 := hS.2.1.at (i := 4) rfl; have b5 := hS.2.1.at (i := 5) rfl; have b6 := hS.2.1.at (i := 6) rfl; have b7 := hS.2.1.at (i := 7) rfl; have b8 := hS.2.1.at (i := 8) rfl; have b9 := hS.2.1.at (i := 9) rfl; clear hS; go_simp; first | done | with_reducible rfl | (refine ⟨?_, ?_⟩ <;> with_reducible rfl))
                 focus (intro y hS; first
                  | (refine (l8PieceOk_r _ x.xFlight[j].xPiece _ y ⟨_, rfl, HE2.out.below hS.2.2⟩ hst).mono ?_; rintro e y' ⟨rfl, hb⟩; exact ⟨by rw [h5], ⟨hS.1.keep hb, hS.2.1.keep hb, belowOn hS.2.2 hS.2.2.size hb⟩⟩)
                  | (refine (specAdd_any _ _ _ y).mono ?_; rintro e y' ⟨rfl, rfl⟩; exact ⟨by with_reducible rfl, hS⟩)
                  | (refine (l1In_any _ _ _ y).mono ?_; rintro e y' ⟨rfl, rfl⟩; exact ⟨by first | rw [h7] | rw [h8], hS⟩)))
             simp only [Act.put, List.setIfInBounds_toArray, List.set_cons_zero, List.set_cons_succ])
          refine steady_nil ?_
          have h6' := H6.out
          have h9' : (j == 0) = true := by simpa using h9
          intro w3 hS3
          have KF := Lib.hid hS3.1
          have Hfin := Lib.hid (belowOn HB2.out HB2.out.size hS3.2.2)
          clear hS3
          go_wp2
          exact ⟨⟨j + 1, by omega, by go_num, KF.out, Hfin.out, Hu.out.succ hk (Hsk.out.trans (by rw [Hsj.out]; simp [h5, h6', h7, h8, h9', h10]))⟩, by simp [intOf]; omega⟩
        · refine wp_region_steady (fun y => Blk y w.heap.size [.int .i64 x.xStreams, .int .i64 x.xNext, .slice (some ad) n2 q2, .slice A3 n3 q3, .slice A4 x.xSsns.length q4] ∧ Blk y wr.heap.size [.int .i64 x.xFlight[j].xMark, .int .i64 x.xFlight[j].xPiece.xTsn, .int .i64 x.xFlight[j].xPiece.xStream, .int .i64 x.xFlight[j].xPiece.xSsn, .bool x.xFlight[j].xPiece.xFirst, .bool x.xFlight[j].xPiece.xLast, .bool x.xFlight[j].xPiece.xLoose, .slice A7 x.xFlight[j].xPiece.xBody.length q7, .int .i64 x.xFlight[j].xTimes, .bool x.xFlight[j].xAcked] ∧ Below w2.heap.size w2 y) (by kernel_rfl) (by kernel_rfl) (⟨KO.out.drew, KS.out.drew, (Below.refl _ _).drew⟩) ?_
          repeat
            (first
              | (refine steady_no (by rfl) ?_)
              | (refine' steady_val (v := _) (by rfl) ?_ ?_
                 rotate_left
                 focus (intro y hS; have a0 := hS.1.at (i := 0) rfl; have a1 := hS.1.at (i := 1) rfl; have a2 := hS.1.at (i := 2) rfl; have a3 := hS.1.at (i := 3) rfl; have a4 := hS.1.at (i := 4) rfl; have b0 := hS.2.1.at (i := 0) rfl; have b1 := hS.2.1.at (i := 1) rfl; have b2 := hS.2.1.at (i := 2) rfl; have b3 := hS.2.1.at (i := 3) rfl; have b4 := hS.2.1.at (i := 4) rfl; have b5 := hS.2.1.at (i := 5) rfl; have b6 := hS.2.1.at (i := 6) rfl; have b7 := hS.2.1.at (i := 7) rfl; have b8 := hS.2.1.at (i := 8) rfl; have b9 := hS.2.1.at (i := 9) rfl; clear hS; go_simp; first | done | with_reducible rfl))
              | (refine' steady_call (f := _) (args := _) _ (by rfl) ?_ ?_ ?_
                 rotate_left 3
                 focus (intro y hS; have a0 := hS.1.at (i := 0) rfl; have a1 := hS.1.at (i := 1) rfl; have a2 := hS.1.at (i := 2) rfl; have a3 := hS.1.at (i := 3) rfl; have a4 := hS.1.at (i := 4) rfl; have b0 := hS.2.1.at (i := 0) rfl; have b1 := hS.2.1.at (i := 1) rfl; have b2 := hS.2.1.at (i := 2) rfl; have b3 := hS.2.1.at (i := 3) rfl; have b4 := hS.2.1.at (i := 4) rfl; have b5 := hS.2.1.at (i := 5) rfl; have b6 := hS.2.1.at (i := 6) rfl; have b7 := hS.2.1.at (i := 7) rfl; have b8 := hS.2.1.at (i := 8) rfl; have b9 := hS.2.1.at (i := 9) rfl; clear hS; go_simp; first | done | with_reducible rfl | (refine ⟨?_, ?_⟩ <;> with_reducible rfl))
                 focus (intro y hS; first
                  | (refine (l8PieceOk_r _ x.xFlight[j].xPiece _ y ⟨_, rfl, HE2.out.below hS.2.2⟩ hst).mono ?_; rintro e y' ⟨rfl, hb⟩; exact ⟨by rw [h5], ⟨hS.1.keep hb, hS.2.1.keep hb, belowOn hS.2.2 hS.2.2.size hb⟩⟩)
                  | (refine (specAdd_any _ _ _ y).mono ?_; rintro e y' ⟨rfl, rfl⟩; exact ⟨by with_reducible rfl, hS⟩)
                  | (refine (l1In_any _ _ _ y).mono ?_; rintro e y' ⟨rfl, rfl⟩; exact ⟨by first | rw [h7] | rw [h8], hS⟩)))
             simp only [Act.put, List.setIfInBounds_toArray, List.set_cons_zero, List.set_cons_succ])
          refine steady_nil ?_
          have h6' := H6.out
          have h9' : (j == 0) = true := by simpa using h9
          intro w3 hS3
          have hfin : Below w.heap.size w w3 := belowOn HB2.out HB2.out.size hS3.2.2
          have Hfin := Lib.hid hfin
          clear hS3 hfin
          go_wp2
          go_ret
          exact ⟨ret_bool (by have hb := allI_bad hk (Hsk.out.trans (by rw [Hsj.out]; simp [h5, h6', h7, h8, h9', h10])); rw [Hout.out, hb]; simp), Hfin.out⟩
      · refine wp_region_steady (fun y => Blk y w.heap.size [.int .i64 x.xStreams, .int .i64 x.xNext, .slice (some ad) n2 q2, .slice A3 n3 q3, .slice A4 x.xSsns.length q4] ∧ Blk y wr.heap.size [.int .i64 x.xFlight[j].xMark, .int .i64 x.xFlight[j].xPiece.xTsn, .int .i64 x.xFlight[j].xPiece.xStream, .int .i64 x.xFlight[j].xPiece.xSsn, .bool x.xFlight[j].xPiece.xFirst, .bool x.xFlight[j].xPiece.xLast, .bool x.xFlight[j].xPiece.xLoose, .slice A7 x.xFlight[j].xPiece.xBody.length q7, .int .i64 x.xFlight[j].xTimes, .bool x.xFlight[j].xAcked] ∧ Below w2.heap.size w2 y) (by kernel_rfl) (by kernel_rfl) (⟨KO.out.drew, KS.out.drew, (Below.refl _ _).drew⟩) ?_
        repeat
          (first
            | (refine steady_no (by rfl) ?_)
            | (refine' steady_val (v := _) (by rfl) ?_ ?_
               rotate_left
               focus (intro y hS; have a0 := hS.1.at (i := 0) rfl; have a1 := hS.1.at (i := 1) rfl; have a2 := hS.1.at (i := 2) rfl; have a3 := hS.1.at (i := 3) rfl; have a4 := hS.1.at (i := 4) rfl; have b0 := hS.2.1.at (i := 0) rfl; have b1 := hS.2.1.at (i := 1) rfl; have b2 := hS.2.1.at (i := 2) rfl; have b3 := hS.2.1.at (i := 3) rfl; have b4 := hS.2.1.at (i := 4) rfl; have b5 := hS.2.1.at (i := 5) rfl; have b6 := hS.2.1.at (i := 6) rfl; have b7 := hS.2.1.at (i := 7) rfl; have b8 := hS.2.1.at (i := 8) rfl; have b9 := hS.2.1.at (i := 9) rfl; clear hS; go_simp; first | done | with_reducible rfl))
            | (refine' steady_call (f := _) (args := _) _ (by rfl) ?_ ?_ ?_
               rotate_left 3
               focus (intro y hS; have a0 := hS.1.at (i := 0) rfl; have a1 := hS.1.at (i := 1) rfl; have a2 := hS.1.at (i := 2) rfl; have a3 := hS.1.at (i := 3) rfl; have a4 := hS.1.at (i := 4) rfl; have b0 := hS.2.1.at (i := 0) rfl; have b1 := hS.2.1.at (i := 1) rfl; have b2 := hS.2.1.at (i := 2) rfl; have b3 := hS.2.1.at (i := 3) rfl; have b4 := hS.2.1.at (i := 4) rfl; have b5 := hS.2.1.at (i := 5) rfl; have b6 := hS.2.1.at (i := 6) rfl; have b7 := hS.2.1.at (i := 7) rfl; have b8 := hS.2.1.at (i := 8) rfl; have b9 := hS.2.1.at (i := 9) rfl; clear hS; go_simp; first | done | with_reducible rfl | (refine ⟨?_, ?_⟩ <;> with_reducible rfl))
               focus (intro y hS; first
                | (refine (l8PieceOk_r _ x.xFlight[j].xPiece _ y ⟨_, rfl, HE2.out.below hS.2.2⟩ hst).mono ?_; rintro e y' ⟨rfl, hb⟩; exact ⟨by rw [h5], ⟨hS.1.keep hb, hS.2.1.keep hb, belowOn hS.2.2 hS.2.2.size hb⟩⟩)
                | (refine (specAdd_any _ _ _ y).mono ?_; rintro e y' ⟨rfl, rfl⟩; exact ⟨by with_reducible rfl, hS⟩)
                | (refine (l1In_any _ _ _ y).mono ?_; rintro e y' ⟨rfl, rfl⟩; exact ⟨by first | rw [h7] | rw [h8], hS⟩)))
           simp only [Act.put, List.setIfInBounds_toArray, List.set_cons_zero, List.set_cons_succ])
        refine steady_nil ?_
        have h6' := H6.out
        have h9' : (j == 0) = false := by simpa using h9
        intro w3 hS3
        have KF := Lib.hid hS3.1
        have Hfin := Lib.hid (belowOn HB2.out HB2.out.size hS3.2.2)
        clear hS3
        go_wp2
        exact ⟨⟨j + 1, by omega, by go_num, KF.out, Hfin.out, Hu.out.succ hk (Hsk.out.trans (by rw [Hsj.out]; simp [h5, h6', h7, h8, h9']))⟩, by simp [intOf]; omega⟩
    · have : j = n2 := by omega
      subst this
      have Hall := Lib.hid (Hu.out.done (by rw [Hl2.out]; omega))
      go_wp2
      clear o2
      go_loopw [5] (fun i w1 => ∃ k : Nat, k ≤ n3 ∧ i = .int .i64 k ∧ Blk w1 w.heap.size [.int .i64 x.xStreams, .int .i64 x.xNext, .slice A2 j q2, .slice A3 n3 q3, .slice A4 x.xSsns.length q4] ∧ Below w.heap.size w w1 ∧ UpTo (queuedOk x) x.xQueue k) (fun i _ => n3 - (intOf i).toNat)
      case atStart => exact ⟨0, by omega, rfl, K1.out, HB1.out, UpTo.zero⟩
      case round =>
        obtain ⟨k, hj, rfl, hk1, hb1, hu⟩ := hrel
        have Hu := Lib.hid hu
        have K1 := Lib.hid hk1
        have HB1 := Lib.hid hb1
        clear hu hk1 hb1
        have o3 := K1.out.at (i := 3) rfl
        by_cases hlt : k < n3
        · obtain ⟨ad, cs, hk, rfl, hcl, hca, hE⟩ := RdS.at_ (H3.out.below HB1.out) hlt
          have HE := Lib.hid hE
          obtain ⟨v3, rfl, h3⟩ := hE
          obtain ⟨A5, q5, rfl⟩ := h3.slice
          have HC := Lib.hid hca
          clear hca hcl h3
          have hqj := Hqd.out k x.xQueue[k]
          generalize hqk : queuedOk x k x.xQueue[k] = qk at hqj
          have Hqk := Lib.hid hqk
          have Hqj := Lib.hid hqj
          clear hqk hqj
          go_wp2_with fail
          clear o3
          rcases h5 : unitOk1 x.xQueue[k] with _ | _
          · refine wp_region_steady (fun y => Blk y w.heap.size [.int .i64 x.xStreams, .int .i64 x.xNext, .slice A2 j q2, .slice (some ad) n3 q3, .slice A4 x.xSsns.length q4] ∧ CellsAt y (ad.add (k * 4)) [.int .i64 x.xQueue[k].xMark, .int .i64 x.xQueue[k].xStream, .bool x.xQueue[k].xLoose, .slice A5 x.xQueue[k].xBody.length q5] ∧ Below wr.heap.size wr y) (by kernel_rfl) (by kernel_rfl) (⟨K1.out.drew, HC.out.below (Below.refl _ _).drew, (Below.refl _ _).drew⟩) ?_
            repeat
              (first
                | (refine steady_no (by rfl) ?_)
                | (refine' steady_val (v := _) (by rfl) ?_ ?_
                   rotate_left
                   focus (intro y hS; have a0 := hS.1.at (i := 0) rfl; have a1 := hS.1.at (i := 1) rfl; have a2 := hS.1.at (i := 2) rfl; have a3 := hS.1.at (i := 3) rfl; have a4 := hS.1.at (i := 4) rfl; have c0 := hS.2.1.c0; have c1 := hS.2.1.ci 0 rfl; have c2 := hS.2.1.ci 1 rfl; have c3 := hS.2.1.ci 2 rfl; clear hS; go_simp; first | done | with_reducible rfl))
                | (refine' steady_call (f := _) (args := _) _ (by rfl) ?_ ?_ ?_
                   rotate_left 3
                   focus (intro y hS; have a0 := hS.1.at (i := 0) rfl; have a1 := hS.1.at (i := 1) rfl; have a2 := hS.1.at (i := 2) rfl; have a3 := hS.1.at (i := 3) rfl; have a4 := hS.1.at (i := 4) rfl; have c0 := hS.2.1.c0; have c1 := hS.2.1.ci 0 rfl; have c2 := hS.2.1.ci 1 rfl; have c3 := hS.2.1.ci 2 rfl; clear hS; go_simp; first | done | with_reducible rfl | (refine ⟨?_, ?_⟩ <;> with_reducible rfl))
                   focus (intro y hS; first
                    | (refine (specUnitOk_r _ x.xQueue[k] y (HE.out.below hS.2.2)).mono ?_; rintro e y' ⟨rfl, hb⟩; exact ⟨by rw [h5], ⟨hS.1.keep hb, hS.2.1.below hb, belowOn hS.2.2 hS.2.2.size hb⟩⟩)))
               simp only [Act.put, List.setIfInBounds_toArray, List.set_cons_zero, List.set_cons_succ])
            refine steady_nil ?_
            intro w3 hS3
            have KF := Lib.hid hS3.1
            have Hfin := Lib.hid (belowOn HB1.out HB1.out.size hS3.2.2)
            clear hS3
            go_wp2
            go_ret
            exact ⟨ret_bool (by have hb := allI_bad hk (Hqk.out.trans (by rw [Hqj.out]; simp [h5])); rw [Hout.out, hb]; simp), Hfin.out⟩
          by_cases h6 : x.xStreams ≤ x.xQueue[k].xStream
          · refine wp_region_steady (fun y => Blk y w.heap.size [.int .i64 x.xStreams, .int .i64 x.xNext, .slice A2 j q2, .slice (some ad) n3 q3, .slice A4 x.xSsns.length q4] ∧ CellsAt y (ad.add (k * 4)) [.int .i64 x.xQueue[k].xMark, .int .i64 x.xQueue[k].xStream, .bool x.xQueue[k].xLoose, .slice A5 x.xQueue[k].xBody.length q5] ∧ Below wr.heap.size wr y) (by kernel_rfl) (by kernel_rfl) (⟨K1.out.drew, HC.out.below (Below.refl _ _).drew, (Below.refl _ _).drew⟩) ?_
            repeat
              (first
                | (refine steady_no (by rfl) ?_)
                | (refine' steady_val (v := _) (by rfl) ?_ ?_
                   rotate_left
                   focus (intro y hS; have a0 := hS.1.at (i := 0) rfl; have a1 := hS.1.at (i := 1) rfl; have a2 := hS.1.at (i := 2) rfl; have a3 := hS.1.at (i := 3) rfl; have a4 := hS.1.at (i := 4) rfl; have c0 := hS.2.1.c0; have c1 := hS.2.1.ci 0 rfl; have c2 := hS.2.1.ci 1 rfl; have c3 := hS.2.1.ci 2 rfl; clear hS; go_simp; first | done | with_reducible rfl))
                | (refine' steady_call (f := _) (args := _) _ (by rfl) ?_ ?_ ?_
                   rotate_left 3
                   focus (intro y hS; have a0 := hS.1.at (i := 0) rfl; have a1 := hS.1.at (i := 1) rfl; have a2 := hS.1.at (i := 2) rfl; have a3 := hS.1.at (i := 3) rfl; have a4 := hS.1.at (i := 4) rfl; have c0 := hS.2.1.c0; have c1 := hS.2.1.ci 0 rfl; have c2 := hS.2.1.ci 1 rfl; have c3 := hS.2.1.ci 2 rfl; clear hS; go_simp; first | done | with_reducible rfl | (refine ⟨?_, ?_⟩ <;> with_reducible rfl))
                   focus (intro y hS; first
                    | (refine (specUnitOk_r _ x.xQueue[k] y (HE.out.below hS.2.2)).mono ?_; rintro e y' ⟨rfl, hb⟩; exact ⟨by rw [h5], ⟨hS.1.keep hb, hS.2.1.below hb, belowOn hS.2.2 hS.2.2.size hb⟩⟩)))
               simp only [Act.put, List.setIfInBounds_toArray, List.set_cons_zero, List.set_cons_succ])
            refine steady_nil ?_
            intro w3 hS3
            have KF := Lib.hid hS3.1
            have Hfin := Lib.hid (belowOn HB1.out HB1.out.size hS3.2.2)
            clear hS3
            go_wp2
            go_ret
            exact ⟨ret_bool (by have hb := allI_bad hk (Hqk.out.trans (by rw [Hqj.out]; simp [h5, h6])); rw [Hout.out, hb]; simp), Hfin.out⟩
          · refine wp_region_steady (fun y => Blk y w.heap.size [.int .i64 x.xStreams, .int .i64 x.xNext, .slice A2 j q2, .slice (some ad) n3 q3, .slice A4 x.xSsns.length q4] ∧ CellsAt y (ad.add (k * 4)) [.int .i64 x.xQueue[k].xMark, .int .i64 x.xQueue[k].xStream, .bool x.xQueue[k].xLoose, .slice A5 x.xQueue[k].xBody.length q5] ∧ Below wr.heap.size wr y) (by kernel_rfl) (by kernel_rfl) (⟨K1.out.drew, HC.out.below (Below.refl _ _).drew, (Below.refl _ _).drew⟩) ?_
            repeat
              (first
                | (refine steady_no (by rfl) ?_)
                | (refine' steady_val (v := _) (by rfl) ?_ ?_
                   rotate_left
                   focus (intro y hS; have a0 := hS.1.at (i := 0) rfl; have a1 := hS.1.at (i := 1) rfl; have a2 := hS.1.at (i := 2) rfl; have a3 := hS.1.at (i := 3) rfl; have a4 := hS.1.at (i := 4) rfl; have c0 := hS.2.1.c0; have c1 := hS.2.1.ci 0 rfl; have c2 := hS.2.1.ci 1 rfl; have c3 := hS.2.1.ci 2 rfl; clear hS; go_simp; first | done | with_reducible rfl))
                | (refine' steady_call (f := _) (args := _) _ (by rfl) ?_ ?_ ?_
                   rotate_left 3
                   focus (intro y hS; have a0 := hS.1.at (i := 0) rfl; have a1 := hS.1.at (i := 1) rfl; have a2 := hS.1.at (i := 2) rfl; have a3 := hS.1.at (i := 3) rfl; have a4 := hS.1.at (i := 4) rfl; have c0 := hS.2.1.c0; have c1 := hS.2.1.ci 0 rfl; have c2 := hS.2.1.ci 1 rfl; have c3 := hS.2.1.ci 2 rfl; clear hS; go_simp; first | done | with_reducible rfl | (refine ⟨?_, ?_⟩ <;> with_reducible rfl))
                   focus (intro y hS; first
                    | (refine (specUnitOk_r _ x.xQueue[k] y (HE.out.below hS.2.2)).mono ?_; rintro e y' ⟨rfl, hb⟩; exact ⟨by rw [h5], ⟨hS.1.keep hb, hS.2.1.below hb, belowOn hS.2.2 hS.2.2.size hb⟩⟩)))
               simp only [Act.put, List.setIfInBounds_toArray, List.set_cons_zero, List.set_cons_succ])
            refine steady_nil ?_
            intro w3 hS3
            have KF := Lib.hid hS3.1
            have Hfin := Lib.hid (belowOn HB1.out HB1.out.size hS3.2.2)
            clear hS3
            go_wp2
            exact ⟨⟨k + 1, by omega, by go_num, KF.out, Hfin.out, Hu.out.succ hk (Hqk.out.trans (by rw [Hqj.out]; simp [h5, Int.not_le.1 h6]))⟩, by simp [intOf]; omega⟩
        · go_wp2
          go_ret
          exact ⟨ret_bool (by have hb := Hu.out.done (by rw [Hl3.out]; omega); rw [Hout.out, Hall.out, hb, h1, hn, decide_eq_true hf, decide_eq_true hq]; rfl), HB1.out⟩
end Go.Proofs.Ythdjjgbjemaabaa
