/-
  Is a sending side ok? The program's answer. (Written by wip/tools/genoutoki.py.)
-/
import Derived.Test.YthdjjgbjemaabaaOutOk
namespace Go.Proofs.Ythdjjgbjemaabaa
open Go.ChangeShapes Go.WideShapes Go.ChangeAt Go.RowKit
set_option linter.unusedVariables false
set_option linter.unusedSimpArgs false

theorem addF_add {a : Int} (p q : Int) (ha : inB a 0 4294967295 = true) : addF (addF a p 32) q 32 = addF a (p + q) 32 := by
  have h := inB_iff.1 ha
  have h1 : isB a 32 = true := isB_iff.2 ⟨h.1, by rw [topOf32]; omega⟩
  have h2 : ∀ n, addF a n 32 = (a + n) % 4294967296 := fun n => by simp [addF, h1, topOf32]
  have h3 : isB (addF a p 32) 32 = true := by rw [h2]; exact isB_iff.2 ⟨by omega, by rw [topOf32]; omega⟩
  have h4 : ∀ b, isB b 32 = true → addF b q 32 = (b + q) % 4294967296 := fun b hb => by simp [addF, hb, topOf32]
  rw [h4 _ h3, h2, h2]
  omega

set_option maxHeartbeats 800000 in
theorem datQueue1_r (cs : List Value) (u : DDatUnit) (p : Nat) (os : List Value) (streams : Int) (w : World) (h : FDatUnit w cs u) (hk : Blk w p (.int .i64 streams :: os)) : Calls Try.prog 315 #[.agg cs.toArray, .pointer (some ⟨p, 0, none⟩)] w fun e w' => e = .returned (.bool (!(unitOk1 u && decide (u.xStream < streams)))) ∧ Below w.heap.size w w' := by
  have HF := Lib.hid h
  obtain ⟨v3, rfl, h3⟩ := h
  obtain ⟨A, c, rfl⟩ := h3.slice
  clear h3
  have HP := Lib.hid hk
  clear hk
  have K := Lib.hid (Blk.new (w := w) (b := w.heap.size) #[.int .i64 u.xMark, .int .i64 u.xStream, .bool u.xLoose, .slice A u.xBody.length c] 106 rfl)
  have HB := Lib.hid ((Below.refl w.heap.size w).alloc (Nat.le_refl _) (.cells #[.int .i64 u.xMark, .int .i64 u.xStream, .bool u.xLoose, .slice A u.xBody.length c] 106))
  have HP := Lib.hid (HP.out.alloc (.cells #[.int .i64 u.xMark, .int .i64 u.xStream, .bool u.xLoose, .slice A u.xBody.length c] 106))
  go_enter Try.func315, Try.ntmps315
  go_wp2_with fail
  refine (implUnitOk_r _ u _ (HF.out.below HB.out)).mono ?_
  rintro e w1 ⟨rfl, b1⟩
  have HP := Lib.hid (HP.out.keep b1)
  have K := Lib.hid (K.out.keep b1)
  have HB := Lib.hid (HB.out.trans (b1.mono HB.out.size))
  clear b1
  have k1 := K.out.at (i := 1) rfl
  have p0 := HP.out.at (i := 0) rfl
  rcases h5 : unitOk1 u with _ | _
  · go_wp2
    go_ret
    exact ⟨ret_bool (by simp [h5]), HB.out⟩
  · go_wp2
    go_ret
    refine ⟨ret_bool ?_, HB.out⟩
    by_cases h : u.xStream < streams
    · have h' : ¬ streams ≤ u.xStream := by omega
      simp [h5, h, h']
    · have h' : streams ≤ u.xStream := by omega
      simp [h5, h, h']
set_option maxHeartbeats 800000 in
theorem indexUnit_queue (v : Value) (x : DDatOut) (p : Nat) (os : List Value) (w : World) (hv : RdDatUnitS w v x.xQueue) (hk : Blk w p (.int .i64 x.xStreams :: os)) : Calls Try.prog 336 #[v, .func (.func 315) #[] #[.pointer (some ⟨p, 0, none⟩)]] w fun e w' => ∃ r : Int, e = .returned (.int .i64 r) ∧ decide (0 ≤ r) = !allI (queuedOk x) x.xQueue ∧ Below w.heap.size w w' := by
  obtain ⟨A, c, rfl⟩ := RdS.slice hv
  have hc := RdS.cap hv
  have Hv := Lib.hid hv
  have HP := Lib.hid hk
  clear hv hk
  have hqd : ∀ j u, queuedOk x j u = (unitOk1 u && decide (u.xStream < x.xStreams)) := fun _ _ => rfl
  generalize queuedOk x = pq at *
  have Hqd := Lib.hid hqd
  clear hqd
  generalize hl : x.xQueue.length = n at *
  have Hl := Lib.hid hl
  clear hl
  go_enter Try.func336, Try.ntmps336
  go_wp2
  go_loopw [8] (fun i w1 => ∃ j : Nat, j ≤ n ∧ i = .int .i64 j ∧ Below w.heap.size w w1 ∧ UpTo pq x.xQueue j) (fun i _ => n - (intOf i).toNat)
  case atStart => exact ⟨0, by omega, rfl, Below.refl _ _, UpTo.zero⟩
  case round =>
    obtain ⟨j, hj, rfl, hb, hu⟩ := hrel
    have Hu := Lib.hid hu
    have HB := Lib.hid hb
    clear hu hb
    by_cases hlt : j < n
    · obtain ⟨ad, cs, hk, rfl, hcl, hca, hE⟩ := RdS.at_ (Hv.out.below HB.out) hlt
      have HE := Lib.hid hE
      obtain ⟨v3, rfl, h3⟩ := hE
      have c0 := hca.c0
      have c1 := hca.ci 0 rfl
      have c2 := hca.ci 1 rfl
      have c3 := hca.ci 2 rfl
      clear hca hcl h3
      have hqj := Hqd.out j x.xQueue[j]
      have Hqj := Lib.hid hqj
      clear hqj
      go_wp2_with fail
      refine (datQueue1_r _ x.xQueue[j] p os _ _ HE.out (HP.out.keep HB.out)).mono ?_
      rintro e w2 ⟨rfl, b2⟩
      have HB := Lib.hid (HB.out.trans (b2.mono HB.out.size))
      clear b2 c0 c1 c2 c3
      rw [← Hqj.out]
      rcases h5 : pq j x.xQueue[j] with _ | _
      · go_wp2
        go_ret
        exact ⟨_, rfl, by have hb := allI_bad hk h5; simp [hb], HB.out⟩
      · go_wp2
        exact ⟨⟨j + 1, by omega, by go_num, HB.out, Hu.out.succ hk h5⟩, by simp [intOf]; omega⟩
    · go_wp2
      go_ret
      exact ⟨_, rfl, by have hb := Hu.out.done (by rw [Hl.out]; omega); simp [hb], HB.out⟩
set_option maxHeartbeats 800000 in
theorem datQueueOk_r (cs : List Value) (x : DDatOut) (w : World) (h : FDatOut w cs x) : Calls Try.prog 258 #[.agg cs.toArray] w fun e w' => e = .returned (.bool (decide (x.xQueue.length ≤ 12) && allI (queuedOk x) x.xQueue)) ∧ Below w.heap.size w w' := by
  obtain ⟨v2, v3, v4, rfl, h2, h3, h4⟩ := h
  obtain ⟨A2, q2, rfl⟩ := RdS.slice h2
  obtain ⟨A3, q3, rfl⟩ := RdS.slice h3
  obtain ⟨A4, q4, rfl⟩ := h4.slice
  have hc2 := RdS.cap h2
  have hc3 := RdS.cap h3
  have H2 := Lib.hid h2
  have H3 := Lib.hid h3
  have H4 := Lib.hid h4
  clear h2 h3 h4
  generalize hl2 : x.xFlight.length = n2 at *
  generalize hl3 : x.xQueue.length = n3 at *
  have Hl3 := Lib.hid hl3
  clear hl2 hl3
  have K := Lib.hid (Blk.new (w := w) (b := w.heap.size) #[.int .i64 x.xStreams, .int .i64 x.xNext, .slice A2 n2 q2, .slice A3 n3 q3, .slice A4 x.xSsns.length q4] 84 rfl)
  have HB := Lib.hid ((Below.refl w.heap.size w).alloc (Nat.le_refl _) (.cells #[.int .i64 x.xStreams, .int .i64 x.xNext, .slice A2 n2 q2, .slice A3 n3 q3, .slice A4 x.xSsns.length q4] 84))
  have hmf : ∀ (fn : Fn) (first cap : Array Value) (w : World), (Instr.makeFunc fn first cap).run Try.prog w = .ok (.func fn first cap) w := fun _ _ _ _ => rfl
  have hcf : ∀ w1, Below w.heap.size w w1 → Blk w1 w.heap.size [.int .i64 x.xStreams, .int .i64 x.xNext, .slice A2 n2 q2, .slice A3 n3 q3, .slice A4 x.xSsns.length q4] → Calls Try.prog 314 #[.slice A3 n3 q3, .func (.func 315) #[] #[.pointer (some ⟨w.heap.size, 0, none⟩)]] w1 fun e w' => e = .returned (.bool (!allI (queuedOk x) x.xQueue)) ∧ Below w1.heap.size w1 w' := by
    intro w1 hb hk
    have HB1 := Lib.hid hb
    have K1 := Lib.hid hk
    clear hb hk
    go_enter Try.func314, Try.ntmps314
    go_wp2_with fail
    refine (indexUnit_queue _ x _ _ _ (H3.out.below HB1.out) K1.out).mono ?_
    rintro e w' ⟨r, rfl, hr, hb⟩
    have Hr := Lib.hid hr
    have Hb := Lib.hid hb
    clear hr hb
    go_wp2
    go_ret
    exact ⟨ret_bool Hr.out, Hb.out⟩
  have Hcf := Lib.hid hcf
  clear hcf
  generalize allI (queuedOk x) x.xQueue = ok at *
  rcases Nat.lt_or_ge 12 n3 with hq | hq
  · go_enter Try.func258, Try.ntmps258
    go_wp2
    go_ret
    exact ⟨ret_bool (by rw [decide_eq_false (Nat.not_le.2 hq)]; rfl), HB.out⟩
  · go_enter Try.func258, Try.ntmps258
    go_wp2_with fail
    refine (Hcf.out _ HB.out K.out).mono ?_
    rintro e w2 ⟨rfl, b2⟩
    have HB := Lib.hid (HB.out.trans (b2.mono HB.out.size))
    clear b2
    go_wp2
    go_ret
    exact ⟨ret_bool (by rw [decide_eq_true hq]; simp), HB.out⟩
set_option maxHeartbeats 800000 in
theorem datAnswered_r (cs : List Value) (x : DDatOut) (w : World) (h : FDatOut w cs x) (hn : x.xFlight.length ≤ 8) : Calls Try.prog 312 #[.agg cs.toArray] w fun e w' => e = .returned (.int .i64 (addF x.xNext (-1 - x.xFlight.length) 32)) ∧ Below w.heap.size w w' := by
  obtain ⟨v2, v3, v4, rfl, h2, h3, h4⟩ := h
  obtain ⟨A2, q2, rfl⟩ := RdS.slice h2
  obtain ⟨A3, q3, rfl⟩ := RdS.slice h3
  obtain ⟨A4, q4, rfl⟩ := h4.slice
  have hc2 := RdS.cap h2
  have hc3 := RdS.cap h3
  have H2 := Lib.hid h2
  have H3 := Lib.hid h3
  have H4 := Lib.hid h4
  clear h2 h3 h4
  generalize x.xFlight.length = n2 at *
  generalize x.xQueue.length = n3 at *
  have K := Lib.hid (Blk.new (w := w) (b := w.heap.size) #[.int .i64 x.xStreams, .int .i64 x.xNext, .slice A2 n2 q2, .slice A3 n3 q3, .slice A4 x.xSsns.length q4] 84 rfl)
  have HB := Lib.hid ((Below.refl w.heap.size w).alloc (Nat.le_refl _) (.cells #[.int .i64 x.xStreams, .int .i64 x.xNext, .slice A2 n2 q2, .slice A3 n3 q3, .slice A4 x.xSsns.length q4] 84))
  go_enter Try.func312, Try.ntmps312
  go_wp2_with (go_at_call 249; refine (implAdd_any _ _ _ _).mono ?_; rintro e w' ⟨rfl, rfl⟩)
  go_ret
  exact ⟨rfl, HB.out⟩
set_option maxRecDepth 100000 in
set_option maxHeartbeats 4000000 in
theorem datFlightOk_r (cs : List Value) (x : DDatOut) (w : World) (h : FDatOut w cs x) (hst : 1 ≤ x.xStreams ∧ x.xStreams ≤ 8) (hnx : inB x.xNext 0 4294967295 = true) : Calls Try.prog 257 #[.agg cs.toArray] w fun e w' => e = .returned (.bool (decide (x.xFlight.length ≤ 8) && allI (sentOk x) x.xFlight)) ∧ Below w.heap.size w w' := by
  have HF := Lib.hid h
  obtain ⟨v2, v3, v4, rfl, h2, h3, h4⟩ := h
  obtain ⟨A2, q2, rfl⟩ := RdS.slice h2
  obtain ⟨A3, q3, rfl⟩ := RdS.slice h3
  obtain ⟨A4, q4, rfl⟩ := h4.slice
  have hc2 := RdS.cap h2
  have hc3 := RdS.cap h3
  have H2 := Lib.hid h2
  have H3 := Lib.hid h3
  have H4 := Lib.hid h4
  clear h2 h3 h4
  have hsent : ∀ j s, sentOk x j s = (pieceOk s.xPiece x.xStreams && (decide (s.xPiece.xTsn = addF x.xNext (j - x.xFlight.length) 32) && (inB s.xTimes 1 1000000 && (inB s.xMark 0 1000000 && !(j == 0 && s.xAcked))))) := fun _ _ => rfl
  have hans : x.xFlight.length ≤ 8 → ∀ w1, Below w.heap.size w w1 → Calls Try.prog 312 #[.agg #[.int .i64 x.xStreams, .int .i64 x.xNext, .slice A2 x.xFlight.length q2, .slice A3 x.xQueue.length q3, .slice A4 x.xSsns.length q4]] w1 fun e w' => e = .returned (.int .i64 (addF x.xNext (-1 - x.xFlight.length) 32)) ∧ Below w1.heap.size w1 w' := fun hn w1 hb => datAnswered_r _ x w1 (HF.out.below hb) hn
  generalize hl2 : x.xFlight.length = n2 at *
  generalize hl3 : x.xQueue.length = n3 at *
  have Hl2 := Lib.hid hl2
  have Hsent := Lib.hid hsent
  have Hans := Lib.hid hans
  clear hl2 hl3 hsent hans
  generalize sentOk x = ps at *
  have K := Lib.hid (Blk.new (w := w) (b := w.heap.size) #[.int .i64 x.xStreams, .int .i64 x.xNext, .slice A2 n2 q2, .slice A3 n3 q3, .slice A4 x.xSsns.length q4] 84 rfl)
  have HB := Lib.hid ((Below.refl w.heap.size w).alloc (Nat.le_refl _) (.cells #[.int .i64 x.xStreams, .int .i64 x.xNext, .slice A2 n2 q2, .slice A3 n3 q3, .slice A4 x.xSsns.length q4] 84))
  rcases Nat.lt_or_ge 8 n2 with hf | hf
  · go_enter Try.func257, Try.ntmps257
    go_wp2
    go_ret
    exact ⟨ret_bool (by rw [decide_eq_false (Nat.not_le.2 hf)]; rfl), HB.out⟩
  have rest : (∀ h0 : 0 < x.xFlight.length, x.xFlight[0].xAcked = false) → Calls Try.prog 257 #[.agg #[.int .i64 x.xStreams, .int .i64 x.xNext, .slice A2 n2 q2, .slice A3 n3 q3, .slice A4 x.xSsns.length q4]] w fun e w' => e = .returned (.bool (decide (n2 ≤ 8) && allI ps x.xFlight)) ∧ Below w.heap.size w w' := by
    intro hack
    have Hack := Lib.hid hack
    have hsplit : n2 = 0 ∨ (0 < n2 ∧ ∃ ad cs, A2 = some ad ∧ CellsAt w ad cs ∧ cs[9]? = some (.bool false)) := by
      rcases Nat.eq_zero_or_pos n2 with h0 | h0
      · exact .inl h0
      · obtain ⟨ad, cs, hk, rfl, hcl, hca, v7, rfl, _⟩ := RdS.at_ H2.out h0
        have ha := hack (by rw [Hl2.out]; exact h0)
        have h0a : ad.add (0 * 10) = ad := by unfold Addr.add; split <;> simp_all
        rw [h0a] at hca
        exact .inr ⟨h0, ad, _, rfl, hca, by show some (Value.bool _) = _; rw [ha]⟩
    clear hack
    rcases hsplit with h0 | ⟨h0, ad0, cs0, rfl, hca0, h9⟩
    · subst h0
      go_enter Try.func257, Try.ntmps257
      go_wp2_with fail
      refine (Hans.out hf _ HB.out).mono ?_
      rintro e w1 ⟨rfl, b1⟩
      have K := Lib.hid (K.out.keep b1)
      have HB := Lib.hid (HB.out.trans (b1.mono HB.out.size))
      clear b1
      have o2 := K.out.at (i := 2) rfl
      generalize addF x.xNext _ 32 = t0
      go_wp2
      clear o2
      go_loopw [28] (fun i w2 => i = .int .i64 0 ∧ Below w.heap.size w w2) (fun _ _ => 0)
      case atStart => exact ⟨rfl, HB.out⟩
      case round =>
        obtain ⟨rfl, hb⟩ := hrel
        have HB := Lib.hid hb
        clear hb
        go_wp2
        go_ret
        exact ⟨ret_bool (by have hb := (UpTo.zero (p := ps) (xs := x.xFlight)).done (by rw [Hl2.out]; omega); rw [hb, decide_eq_true hf]; rfl), HB.out⟩
    · have z9 := (hca0.below HB.out).ci 8 h9
      clear hca0 h9
      go_enter Try.func257, Try.ntmps257
      go_wp2_with fail
      refine (Hans.out hf _ HB.out).mono ?_
      rintro e w1 ⟨rfl, b1⟩
      have K := Lib.hid (K.out.keep b1)
      have HB := Lib.hid (HB.out.trans (b1.mono HB.out.size))
      clear b1
      have o2 := K.out.at (i := 2) rfl
      have Ht0 := Lib.hid (show addF x.xNext (-1 - (n2 : Int)) 32 = addF x.xNext (((0 : Nat) : Int) - n2 - 1) 32 by congr 1; omega)
      go_wp2
      clear o2
      go_loopw [3, 28] (fun q i w2 => ∃ j : Nat, j ≤ n2 ∧ i = .int .i64 j ∧ q = .int .i64 (addF x.xNext ((j : Int) - n2 - 1) 32) ∧ Blk w2 w.heap.size [.int .i64 x.xStreams, .int .i64 x.xNext, .slice (some ad0) n2 q2, .slice A3 n3 q3, .slice A4 x.xSsns.length q4] ∧ Below w.heap.size w w2 ∧ UpTo ps x.xFlight j) (fun _ i _ => n2 - (intOf i).toNat)
      case atStart => exact ⟨0, by omega, rfl, congrArg _ Ht0.out, K.out, HB.out, UpTo.zero⟩
      case round =>
        obtain ⟨j, hj, rfl, rfl, hk1, hb1, hu⟩ := hrel
        have Hu := Lib.hid hu
        have K1 := Lib.hid hk1
        have HB1 := Lib.hid hb1
        clear hu hk1 hb1
        by_cases hlt : j < n2
        · obtain ⟨ad, cs, hk, hae, hcl, hca, hE⟩ := RdS.at_ (H2.out.below HB1.out) hlt
          injection hae with hae
          subst hae
          obtain ⟨v7, rfl, h7⟩ := hE
          obtain ⟨A7, q7, rfl⟩ := h7.slice
          have H7 := Lib.hid (h7.below ((Below.refl _ _).alloc (Nat.le_refl _) (.cells #[.int .i64 x.xFlight[j].xMark, .int .i64 x.xFlight[j].xPiece.xTsn, .int .i64 x.xFlight[j].xPiece.xStream, .int .i64 x.xFlight[j].xPiece.xSsn, .bool x.xFlight[j].xPiece.xFirst, .bool x.xFlight[j].xPiece.xLast, .bool x.xFlight[j].xPiece.xLoose, .slice A7 x.xFlight[j].xPiece.xBody.length q7, .int .i64 x.xFlight[j].xTimes, .bool x.xFlight[j].xAcked] 287)))
          have c0 := hca.c0
          have c1 := hca.ci 0 rfl
          have c2 := hca.ci 1 rfl
          have c3 := hca.ci 2 rfl
          have c4 := hca.ci 3 rfl
          have c5 := hca.ci 4 rfl
          have c6 := hca.ci 5 rfl
          have c7 := hca.ci 6 rfl
          have c8 := hca.ci 7 rfl
          have c9 := hca.ci 8 rfl
          clear hca hcl h7
          have KS := Lib.hid (Blk.new (w := wr) (b := wr.heap.size) #[.int .i64 x.xFlight[j].xMark, .int .i64 x.xFlight[j].xPiece.xTsn, .int .i64 x.xFlight[j].xPiece.xStream, .int .i64 x.xFlight[j].xPiece.xSsn, .bool x.xFlight[j].xPiece.xFirst, .bool x.xFlight[j].xPiece.xLast, .bool x.xFlight[j].xPiece.xLoose, .slice A7 x.xFlight[j].xPiece.xBody.length q7, .int .i64 x.xFlight[j].xTimes, .bool x.xFlight[j].xAcked] 287 rfl)
          have K1 := Lib.hid (K1.out.alloc (.cells #[.int .i64 x.xFlight[j].xMark, .int .i64 x.xFlight[j].xPiece.xTsn, .int .i64 x.xFlight[j].xPiece.xStream, .int .i64 x.xFlight[j].xPiece.xSsn, .bool x.xFlight[j].xPiece.xFirst, .bool x.xFlight[j].xPiece.xLast, .bool x.xFlight[j].xPiece.xLoose, .slice A7 x.xFlight[j].xPiece.xBody.length q7, .int .i64 x.xFlight[j].xTimes, .bool x.xFlight[j].xAcked] 287))
          have HB1 := Lib.hid (HB1.out.alloc HB1.out.size (.cells #[.int .i64 x.xFlight[j].xMark, .int .i64 x.xFlight[j].xPiece.xTsn, .int .i64 x.xFlight[j].xPiece.xStream, .int .i64 x.xFlight[j].xPiece.xSsn, .bool x.xFlight[j].xPiece.xFirst, .bool x.xFlight[j].xPiece.xLast, .bool x.xFlight[j].xPiece.xLoose, .slice A7 x.xFlight[j].xPiece.xBody.length q7, .int .i64 x.xFlight[j].xTimes, .bool x.xFlight[j].xAcked] 287))
          have o0 := K1.out.at (i := 0) rfl
          have Hadd := Lib.hid (show addF (addF x.xNext ((j : Int) - n2 - 1) 32) 1 32 = addF x.xNext ((j : Int) - n2) 32 by rw [addF_add _ _ hnx]; congr 1; omega)
          have Hnext := Lib.hid (show addF x.xNext ((j : Int) - n2) 32 = addF x.xNext (((j + 1 : Nat) : Int) - n2 - 1) 32 by congr 1; omega)
          have Hsj := Lib.hid (Hsent.out j x.xFlight[j])
          rcases Bool.eq_false_or_eq_true (x.xFlight[j].xPiece.xTsn != addF x.xNext ((j : Int) - n2) 32) with h6 | h6
          · go_wp2_with (go_at_call 249; refine (implAdd_any _ _ _ _).mono ?_; rintro e w' ⟨rfl, rfl⟩; rw [Hadd.out])
            go_ret
            have h6' : ¬ x.xFlight[j].xPiece.xTsn = addF x.xNext ((j : Int) - (n2 : Int)) 32 := by simpa using h6
            exact ⟨ret_bool (by have hb := allI_bad hk ((Hsj.out).trans (by simp [h6'])); rw [hb]; simp), HB1.out⟩
          go_wp2_with (go_at_call 249; refine (implAdd_any _ _ _ _).mono ?_; rintro e w' ⟨rfl, rfl⟩; rw [Hadd.out])
          refine (datPieceOk_r _ x.xFlight[j].xPiece _ _ ⟨_, rfl, H7.out⟩ hst).mono ?_
          rintro e w3 ⟨rfl, b3⟩
          have h6' : x.xFlight[j].xPiece.xTsn = addF x.xNext ((j : Int) - (n2 : Int)) 32 := by simpa using h6
          have H6 := Lib.hid h6'
          have KS := Lib.hid (KS.out.keep b3)
          have K1 := Lib.hid (K1.out.keep b3)
          have HB1 := Lib.hid (HB1.out.trans (b3.mono HB1.out.size))
          clear b3 c0 c1 c2 c3 c4 c5 c6 c7 c8 c9 o0 h6'
          have s0 := KS.out.at (i := 0) rfl
          have s8 := KS.out.at (i := 8) rfl
          rcases h5 : pieceOk x.xFlight[j].xPiece x.xStreams with _ | _
          · go_wp2
            go_ret
            exact ⟨ret_bool (by have hb := allI_bad hk ((Hsj.out).trans (by simp [h5])); rw [hb]; simp), HB1.out⟩
          rcases h7 : inB x.xFlight[j].xTimes 1 1000000 with _ | _
          · go_wp2_with (go_at_call 104; refine (frmIn_any _ _ _ _).mono ?_; rintro e w' ⟨rfl, rfl⟩; rw [h7])
            go_ret
            exact ⟨ret_bool (by have hb := allI_bad hk ((Hsj.out).trans (by simp [h7])); rw [hb]; simp), HB1.out⟩
          rcases h8 : inB x.xFlight[j].xMark 0 1000000 with _ | _
          · go_wp2_with (go_at_call 104; refine (frmIn_any _ _ _ _).mono ?_; rintro e w' ⟨rfl, rfl⟩; first | rw [h7] | rw [h8])
            go_ret
            exact ⟨ret_bool (by have hb := allI_bad hk ((Hsj.out).trans (by simp [h8])); rw [hb]; simp), HB1.out⟩
          · go_wp2_with (go_at_call 104; refine (frmIn_any _ _ _ _).mono ?_; rintro e w' ⟨rfl, rfl⟩; first | rw [h7] | rw [h8])
            refine ⟨⟨j + 1, by omega, by go_num, congrArg _ Hnext.out, K1.out, HB1.out, Hu.out.succ hk ((Hsj.out).trans ?_)⟩, by simp [intOf]; omega⟩
            have h6' := H6.out
            have hz : (j == 0 && x.xFlight[j].xAcked) = false := by
              cases j with
              | zero => simpa using Hack.out hk
              | succ j => simp
            simp [h5, h6', h7, h8, hz]
        · go_wp2
          go_ret
          exact ⟨ret_bool (by have hb := Hu.out.done (by rw [Hl2.out]; omega); rw [hb, decide_eq_true hf]; rfl), HB1.out⟩
  by_cases hg : ∃ h0 : 0 < x.xFlight.length, x.xFlight[0].xAcked = true
  · obtain ⟨h0, hg⟩ := hg
    have Hg := Lib.hid hg
    clear hg rest
    obtain ⟨ad, cs, hk, rfl, hcl, hca, v7, rfl, _⟩ := RdS.at_ (H2.out.below HB.out) (by rw [Hl2.out] at h0; exact h0)
    have h0a : ad.add (0 * 10) = ad := by unfold Addr.add; split <;> simp_all
    rw [h0a, Hg.out] at hca
    have c9 := hca.ci 8 rfl
    have h0' : 0 < n2 := by rw [Hl2.out] at h0; exact h0
    have Hbad := Lib.hid (allI_bad (p := ps) h0 (by rw [Hsent.out]; simp [Hg.out]))
    clear hca hcl h0a
    go_enter Try.func257, Try.ntmps257
    go_wp2
    go_ret
    exact ⟨ret_bool (by simp [Hbad.out]), HB.out⟩
  · exact rest (fun h0 => by
      cases hc : x.xFlight[0].xAcked with
      | false => rfl
      | true => exact absurd ⟨h0, hc⟩ hg)
theorem outOk_split (x : DDatOut) : outOk x = (ssnsOk x.xStreams x.xSsns && (inB x.xNext 0 4294967295 && ((decide (x.xFlight.length ≤ 8) && allI (sentOk x) x.xFlight) && (decide (x.xQueue.length ≤ 12) && allI (queuedOk x) x.xQueue)))) := by
  unfold outOk
  generalize ssnsOk x.xStreams x.xSsns = a
  generalize inB x.xNext 0 4294967295 = b
  generalize decide (x.xFlight.length ≤ 8) = c
  generalize decide (x.xQueue.length ≤ 12) = d
  generalize allI (sentOk x) x.xFlight = e
  generalize allI (queuedOk x) x.xQueue = f
  cases a <;> cases b <;> cases c <;> cases d <;> cases e <;> cases f <;> rfl
theorem ssns_streams1 {streams : Int} {ssns : List Int} (h : ssnsOk streams ssns = true) : 1 ≤ streams ∧ streams ≤ 8 := by
  simp only [ssnsOk, Bool.and_eq_true] at h
  exact inB_iff.1 h.1
set_option maxHeartbeats 1000000 in
theorem implDatOutOk_r (cs : List Value) (x : DDatOut) (w : World) (h : FDatOut w cs x) : Calls Try.prog 186 #[.agg cs.toArray] w fun e w' => e = .returned (.bool (outOk x)) ∧ Below w.heap.size w w' := by
  have HF := Lib.hid h
  obtain ⟨v2, v3, v4, rfl, h2, h3, h4⟩ := h
  have H4 := Lib.hid h4
  clear h2 h3 h4
  have Hout := Lib.hid (outOk_split x)
  have K := Lib.hid (Blk.new (w := w) (b := w.heap.size) #[.int .i64 x.xStreams, .int .i64 x.xNext, v2, v3, v4] 84 rfl)
  have HB := Lib.hid ((Below.refl w.heap.size w).alloc (Nat.le_refl _) (.cells #[.int .i64 x.xStreams, .int .i64 x.xNext, v2, v3, v4] 84))
  rcases h1 : ssnsOk x.xStreams x.xSsns with _ | _
  · go_enter Try.func186, Try.ntmps186
    go_wp2_with (go_at_call 256; refine (datStreamsOk_any _ x.xSsns _ _ (H4.out.below HB.out)).mono ?_; rintro e w' ⟨rfl, rfl⟩; rw [h1])
    go_ret
    exact ⟨ret_bool (by rw [Hout.out, h1]; rfl), HB.out⟩
  have hst := ssns_streams1 h1
  rcases hn : inB x.xNext 0 4294967295 with _ | _
  · go_enter Try.func186, Try.ntmps186
    go_wp2_with (first | (go_at_call 256; refine (datStreamsOk_any _ x.xSsns _ _ (H4.out.below HB.out)).mono ?_; rintro e w' ⟨rfl, rfl⟩; rw [h1]) | (go_at_call 151; refine (frmLong_any _ _).mono ?_; rintro e w' ⟨rfl, rfl⟩; rw [hn]))
    go_ret
    exact ⟨ret_bool (by rw [Hout.out, h1, hn]; rfl), HB.out⟩
  go_enter Try.func186, Try.ntmps186
  go_wp2_with (first | (go_at_call 256; refine (datStreamsOk_any _ x.xSsns _ _ (H4.out.below HB.out)).mono ?_; rintro e w' ⟨rfl, rfl⟩; rw [h1]) | (go_at_call 151; refine (frmLong_any _ _).mono ?_; rintro e w' ⟨rfl, rfl⟩; rw [hn]))
  refine (datFlightOk_r _ x _ (HF.out.below HB.out) hst hn).mono ?_
  rintro e w1 ⟨rfl, b1⟩
  have K := Lib.hid (K.out.keep b1)
  have HB := Lib.hid (HB.out.trans (b1.mono HB.out.size))
  clear b1
  have k0 := K.out.at (i := 0) rfl
  have k1 := K.out.at (i := 1) rfl
  have k2 := K.out.at (i := 2) rfl
  have k3 := K.out.at (i := 3) rfl
  have k4 := K.out.at (i := 4) rfl
  rcases h3 : (decide (x.xFlight.length ≤ 8) && allI (sentOk x) x.xFlight) with _ | _
  · go_wp2
    go_ret
    exact ⟨ret_bool (by rw [Hout.out, h1, hn, h3]; rfl), HB.out⟩
  go_wp2_with fail
  refine (datQueueOk_r _ x _ (HF.out.below HB.out)).mono ?_
  rintro e w2 ⟨rfl, b2⟩
  have HB := Lib.hid (HB.out.trans (b2.mono HB.out.size))
  clear b2
  generalize hqq : (decide (x.xQueue.length ≤ 12) && allI (queuedOk x) x.xQueue) = qq at *
  have Hqq := Lib.hid hqq
  clear hqq
  go_wp2
  go_ret
  exact ⟨ret_bool (by rw [Hout.out, h1, hn, h3]; rfl), HB.out⟩
end Go.Proofs.Ythdjjgbjemaabaa
