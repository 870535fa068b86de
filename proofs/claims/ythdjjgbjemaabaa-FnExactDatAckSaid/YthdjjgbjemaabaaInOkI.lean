/-
  Is a receiving side ok? The program's answer.
-/
import Derived.Test.YthdjjgbjemaabaaInOkL
namespace Go.Proofs.Ythdjjgbjemaabaa
open Go.ChangeShapes Go.WideShapes Go.ChangeAt Go.RowKit
set_option linter.unusedVariables false
set_option linter.unusedSimpArgs false

theorem lastOf_succ {a cum : Int} {ts : List Int} {j : Nat} (hj : j < ts.length) : lastOf a cum ts (j + 1) = posF cum ts[j] := by
  simp [lastOf, List.getD_eq_getElem?_getD, List.getElem?_eq_getElem hj]
theorem lastOf_lo {a cum : Int} {ts : List Int} {j : Nat} (ha : 0 ≤ a) : 0 ≤ lastOf a cum ts j := by
  unfold lastOf; split
  · exact ha
  · exact gapF_lo _ _ _
theorem lastHave_succ {cum : Int} {ps : List DDatPiece} {j : Nat} (hj : j < ps.length) : lastOf 0 cum (ps.map (·.xTsn)) (j + 1) = posF cum ps[j].xTsn := by
  rw [lastOf_succ (by simpa using hj)]; simp
theorem place_of {cum t : Int} (hc : inB cum 0 4294967295 = true) (ht : inB t 0 4294967295 = true) : (posF cum t = 0 ∧ placeF cum t = 4294967295 ∧ gapF cum t 32 = 4294967236) ∨ (1 ≤ posF cum t ∧ placeF cum t = posF cum t - 1) := by
  rw [pos_long hc ht, place_long hc ht, far_long hc ht]
  have h1 := inB_iff.1 hc
  have h2 := inB_iff.1 ht
  omega
theorem pieceOk_long {p : DDatPiece} {s : Int} (h : pieceOk p s = true) : inB p.xTsn 0 4294967295 = true := by
  simp only [pieceOk, Bool.and_eq_true] at h; exact h.1
theorem seenAll {x : DDatIn} (hc : inB x.xCum 0 4294967295 = true) (h : allI (seenOk x) x.xSeen = true) : ∀ u ∈ x.xSeen, inB u 0 4294967295 = true ∧ gapF x.xCum u 32 ≤ 16 := by
  have hl : ∀ j, j ≤ x.xSeen.length → 61 ≤ lastOf 61 x.xCum x.xSeen j := by
    intro j
    induction j with
    | zero => intro _; simp [lastOf]
    | succ j ih =>
      intro hj
      have h1 := ih (by omega)
      have h2 := allI_at h (show j < x.xSeen.length by omega)
      simp only [seenOk, Bool.and_eq_true, decide_eq_true_eq] at h2
      rw [lastOf_succ (by omega)]
      omega
  intro u hu
  obtain ⟨j, hj, rfl⟩ := List.getElem_of_mem hu
  have h1 := hl j (by omega)
  have h2 := allI_at h hj
  simp only [seenOk, Bool.and_eq_true, decide_eq_true_eq] at h2
  refine ⟨h2.1, ?_⟩
  rw [far_of_pos hc h2.1 (by omega)]
  omega

set_option maxHeartbeats 800000 in
theorem datSeenOk_r (cs : List Value) (x : DDatIn) (w : World) (h : FDatIn w cs x) (hc : inB x.xCum 0 4294967295 = true) : Calls Try.prog 270 #[.agg cs.toArray] w fun e w' => e = .returned (.bool (decide (x.xSeen.length ≤ 16) && allI (seenOk x) x.xSeen)) ∧ Below w.heap.size w w' := by
  have hsn : ∀ j t, seenOk x j t = (inB t 0 4294967295 && (decide (lastOf 61 x.xCum x.xSeen j < posF x.xCum t) && decide (posF x.xCum t ≤ 76))) := fun _ _ => rfl
  have Hsn := Lib.hid hsn
  clear hsn
  have HF := Lib.hid h
  obtain ⟨v2, v3, v4, rfl, h2, h3, h4⟩ := h
  obtain ⟨A2, q2, rfl⟩ := h2.slice
  obtain ⟨A3, q3, rfl⟩ := RdS.slice h3
  have hc2 := h2.cap
  have hc3 := RdS.cap h3
  have H2 := Lib.hid h2
  have H3 := Lib.hid h3
  clear h2 h3 h4
  have Hfar := Lib.hid (show ∀ t w1, Below w.heap.size w w1 → Calls Try.prog 273 #[.agg #[.int .i64 x.xStreams, .int .i64 x.xCum, .slice A2 x.xSeen.length q2, .slice A3 x.xHave.length q3, v4], .int .i64 t] w1 fun e w' => e = .returned (.int .i64 (gapF x.xCum t 32)) ∧ Below w1.heap.size w1 w' from fun t w1 hb => datFar_r _ x t w1 (HF.out.below hb))
  generalize hl2 : x.xSeen.length = n2 at *
  generalize hl3 : x.xHave.length = n3 at *
  have Hl2 := Lib.hid hl2
  have Hl3 := Lib.hid hl3
  clear hl2 hl3
  have K := Lib.hid (Blk.new (w := w) (b := w.heap.size) #[.int .i64 x.xStreams, .int .i64 x.xCum, .slice A2 n2 q2, .slice A3 n3 q3, v4] 87 rfl)
  have HB := Lib.hid ((Below.refl w.heap.size w).alloc (Nat.le_refl _) (.cells #[.int .i64 x.xStreams, .int .i64 x.xCum, .slice A2 n2 q2, .slice A3 n3 q3, v4] 87))
  generalize seenOk x = ps at *
  rcases Nat.lt_or_ge 16 n2 with hf | hf
  · go_enter Try.func270, Try.ntmps270
    go_wp2
    go_ret
    exact ⟨ret_bool (by rw [decide_eq_false (Nat.not_le.2 hf)]; rfl), HB.out⟩
  go_enter Try.func270, Try.ntmps270
  go_wp2
  go_loopw [3, 13] (fun q i w1 => ∃ (j : Nat) (a : Int), j ≤ n2 ∧ i = .int .i64 j ∧ q = .int .i64 a ∧ 1 ≤ a ∧ a ≤ 16 ∧ lastOf 61 x.xCum x.xSeen j = a + 60 ∧ Blk w1 w.heap.size [.int .i64 x.xStreams, .int .i64 x.xCum, .slice A2 n2 q2, .slice A3 n3 q3, v4] ∧ Below w.heap.size w w1 ∧ UpTo ps x.xSeen j) (fun _ i _ => n2 - (intOf i).toNat)
  case atStart => exact ⟨0, 1, by omega, rfl, rfl, by omega, by omega, rfl, K.out, HB.out, UpTo.zero⟩
  case round =>
    obtain ⟨j, a, hj, rfl, rfl, ha1, ha2, hla, hk1, hb1, hu⟩ := hrel
    have Hu := Lib.hid hu
    have K1 := Lib.hid hk1
    have HB1 := Lib.hid hb1
    have Hla := Lib.hid hla
    clear hu hk1 hb1 hla
    by_cases hlt : j < n2
    · obtain ⟨ad, hk, rfl, hc'⟩ := (H2.out.below HB1.out).at_ hlt
      have o0 := K1.out.at (i := 0) rfl
      have o1 := K1.out.at (i := 1) rfl
      have o2 := K1.out.at (i := 2) rfl
      have o3 := K1.out.at (i := 3) rfl
      have o4 := K1.out.at (i := 4) rfl
      have Hsj := Lib.hid (Hsn.out j x.xSeen[j])
      rcases h3 : inB x.xSeen[j] 0 4294967295 with _ | _
      · go_wp2_with (go_at_call 151; refine (frmLong_any _ _).mono ?_; rintro e w' ⟨rfl, rfl⟩; rw [h3])
        go_ret
        exact ⟨ret_bool (by have hb := allI_bad hk ((Hsj.out).trans (by simp [h3])); rw [hb]; simp), HB1.out⟩
      go_wp2_with (go_at_call 151; refine (frmLong_any _ _).mono ?_; rintro e w' ⟨rfl, rfl⟩; rw [h3])
      refine (Hfar.out x.xSeen[j] _ HB1.out).mono ?_
      rintro e w2 ⟨rfl, b2⟩
      have K1 := Lib.hid (K1.out.keep b2)
      have HB1 := Lib.hid (HB1.out.trans (b2.mono HB1.out.size))
      clear b2 o0 o1 o2 o3 o4
      have Hsf := Lib.hid (seen_far hc h3 a ha1)
      have Hfp := Lib.hid (far_of_pos hc h3)
      generalize hg : gapF x.xCum x.xSeen[j] 32 = g at *
      have Hg := Lib.hid hg
      clear hg
      have o0 := K1.out.at (i := 0) rfl
      have o1 := K1.out.at (i := 1) rfl
      have o2 := K1.out.at (i := 2) rfl
      have o3 := K1.out.at (i := 3) rfl
      have o4 := K1.out.at (i := 4) rfl
      rcases h4 : inB g (a + 1) 16 with _ | _
      · go_wp2_with (go_at_call 104; refine (frmIn_any _ _ _ _).mono ?_; rintro e w' ⟨rfl, rfl⟩; rw [h4])
        go_ret
        refine ⟨ret_bool ?_, HB1.out⟩
        have hb := allI_bad hk ((Hsj.out).trans (by have h5 := Hsf.out.symm.trans h4; rw [Hla.out, h5]; simp))
        rw [hb]; simp
      · have h4' := inB_iff.1 h4
        go_wp2_with (go_at_call 104; refine (frmIn_any _ _ _ _).mono ?_; rintro e w' ⟨rfl, rfl⟩; rw [h4])
        refine (Hfar.out x.xSeen[j] _ HB1.out).mono ?_
        rintro e w2 ⟨rfl, b2⟩
        have K1 := Lib.hid (K1.out.keep b2)
        have HB1 := Lib.hid (HB1.out.trans (b2.mono HB1.out.size))
        clear b2 o0 o1 o2 o3 o4
        rw [Hg.out]
        go_wp2
        have h5 := Hsf.out.symm.trans h4
        have h6 := h5
        simp only [Bool.and_eq_true, decide_eq_true_eq] at h6
        have h7 := Hfp.out (by omega)
        exact ⟨⟨j + 1, g, by omega, by go_num, rfl, by omega, by omega, by rw [lastOf_succ hk]; omega, K1.out, HB1.out, Hu.out.succ hk ((Hsj.out).trans (by rw [Hla.out, h5, h3]; rfl))⟩, by simp [intOf]; omega⟩
    · go_wp2
      go_ret
      exact ⟨ret_bool (by have hb := Hu.out.done (by rw [Hl2.out]; omega); rw [hb, decide_eq_true hf]; rfl), HB1.out⟩

set_option maxRecDepth 100000 in
set_option maxHeartbeats 2000000 in
theorem datHaveOk_r (cs : List Value) (x : DDatIn) (w : World) (h : FDatIn w cs x) (hst : 1 ≤ x.xStreams ∧ x.xStreams ≤ 8) (hc : inB x.xCum 0 4294967295 = true) (hall : allI (seenOk x) x.xSeen = true) : Calls Try.prog 271 #[.agg cs.toArray] w fun e w' => e = .returned (.bool (decide (x.xHave.length ≤ 24) && allI (haveOk x) x.xHave)) ∧ Below w.heap.size w w' := by
  have hhn : ∀ j p, haveOk x j p = (pieceOk p x.xStreams && (decide (lastOf 0 x.xCum (x.xHave.map (·.xTsn)) j < posF x.xCum p.xTsn) && (decide (posF x.xCum p.xTsn ≤ 60) || decide (p.xTsn ∈ x.xSeen)))) := fun _ _ => rfl
  have Hhn := Lib.hid hhn
  have Hsa := Lib.hid (seenAll hc hall)
  clear hhn hall
  have Hls := Lib.hid (show ∀ (j : Nat) (p : DDatPiece), x.xHave[j]? = some p → lastOf 0 x.xCum (x.xHave.map (·.xTsn)) (j + 1) = posF x.xCum p.xTsn from fun j p hp => by obtain ⟨hj, rfl⟩ := List.getElem?_eq_some_iff.1 hp; exact lastHave_succ hj)
  have Hlo := Lib.hid (show ∀ j, 0 ≤ lastOf 0 x.xCum (x.xHave.map (·.xTsn)) j from fun j => lastOf_lo (by omega))
  have Hl0 := Lib.hid (show lastOf 0 x.xCum (x.xHave.map (·.xTsn)) 0 = 0 from rfl)
  have HF := Lib.hid h
  obtain ⟨v2, v3, v4, rfl, h2, h3, h4⟩ := h
  obtain ⟨A2, q2, rfl⟩ := h2.slice
  obtain ⟨A3, q3, rfl⟩ := RdS.slice h3
  have hc2 := h2.cap
  have hc3 := RdS.cap h3
  have H2 := Lib.hid h2
  have H3 := Lib.hid h3
  clear h2 h3 h4
  have Hfar := Lib.hid (show ∀ t w1, Below w.heap.size w w1 → Calls Try.prog 273 #[.agg #[.int .i64 x.xStreams, .int .i64 x.xCum, .slice A2 x.xSeen.length q2, .slice A3 x.xHave.length q3, v4], .int .i64 t] w1 fun e w' => e = .returned (.int .i64 (gapF x.xCum t 32)) ∧ Below w1.heap.size w1 w' from fun t w1 hb => datFar_r _ x t w1 (HF.out.below hb))
  have Hplace := Lib.hid (show ∀ t w1, Below w.heap.size w w1 → Calls Try.prog 317 #[.agg #[.int .i64 x.xStreams, .int .i64 x.xCum, .slice A2 x.xSeen.length q2, .slice A3 x.xHave.length q3, v4], .int .i64 t] w1 fun e w' => e = .returned (.int .i64 (placeF x.xCum t)) ∧ Below w1.heap.size w1 w' from fun t w1 hb => datPlace_r _ x t w1 (HF.out.below hb))
  have Hsof := Lib.hid (show ∀ w1, Below w.heap.size w w1 → Calls Try.prog 198 #[.agg #[.int .i64 x.xStreams, .int .i64 x.xCum, .slice A2 x.xSeen.length q2, .slice A3 x.xHave.length q3, v4]] w1 fun e w' => e = .returned (.int .u32 (bvI (seenBits x.xCum x.xSeen))) ∧ Below w1.heap.size w1 w' from fun w1 hb => datSeenOf_r _ x w1 (HF.out.below hb))
  generalize hl2 : x.xSeen.length = n2 at *
  generalize hl3 : x.xHave.length = n3 at *
  have Hl2 := Lib.hid hl2
  have Hl3 := Lib.hid hl3
  clear hl2 hl3
  have K := Lib.hid (Blk.new (w := w) (b := w.heap.size) #[.int .i64 x.xStreams, .int .i64 x.xCum, .slice A2 n2 q2, .slice A3 n3 q3, v4] 87 rfl)
  have HB := Lib.hid ((Below.refl w.heap.size w).alloc (Nat.le_refl _) (.cells #[.int .i64 x.xStreams, .int .i64 x.xCum, .slice A2 n2 q2, .slice A3 n3 q3, v4] 87))
  generalize haveOk x = ph at *
  generalize lastOf 0 x.xCum (x.xHave.map (·.xTsn)) = lst at *
  rcases Nat.lt_or_ge 24 n3 with hf | hf
  · go_enter Try.func271, Try.ntmps271
    go_wp2
    go_ret
    exact ⟨ret_bool (by rw [decide_eq_false (Nat.not_le.2 hf)]; rfl), HB.out⟩
  go_enter Try.func271, Try.ntmps271
  go_wp2_with fail
  refine (Hsof.out _ HB.out).mono ?_
  rintro e w1 ⟨rfl, b1⟩
  have K := Lib.hid (K.out.keep b1)
  have HB := Lib.hid (HB.out.trans (b1.mono HB.out.size))
  clear b1
  have o3 := K.out.at (i := 3) rfl
  go_wp2
  clear o3
  go_loopw [4, 17] (fun q i w1 => ∃ (j : Nat) (a : Int), j ≤ n3 ∧ i = .int .i64 j ∧ q = .int .i64 a ∧ -1 ≤ a ∧ a ≤ 4294967295 ∧ lst j = a + 1 ∧ Blk w1 w.heap.size [.int .i64 x.xStreams, .int .i64 x.xCum, .slice A2 n2 q2, .slice A3 n3 q3, v4] ∧ Below w.heap.size w w1 ∧ UpTo ph x.xHave j) (fun _ i _ => n3 - (intOf i).toNat)
  case atStart => exact ⟨0, -1, by omega, rfl, rfl, by omega, by omega, Hl0.out, K.out, HB.out, UpTo.zero⟩
  case round =>
    obtain ⟨j, a, hj, rfl, rfl, ha1, ha2, hla, hk1, hb1, hu⟩ := hrel
    have Hu := Lib.hid hu
    have K1 := Lib.hid hk1
    have HB1 := Lib.hid hb1
    have Hla := Lib.hid hla
    clear hu hk1 hb1 hla
    by_cases hlt : j < n3
    · obtain ⟨ad, cs, hk, rfl, hcl, hca, hE⟩ := RdS.at_ (H3.out.below HB1.out) hlt
      obtain ⟨v7, rfl, h7⟩ := hE
      obtain ⟨A7, q7, rfl⟩ := h7.slice
      have H7 := Lib.hid (h7.below ((Below.refl _ _).alloc (Nat.le_refl _) (.cells #[.int .i64 x.xHave[j].xTsn, .int .i64 x.xHave[j].xStream, .int .i64 x.xHave[j].xSsn, .bool x.xHave[j].xFirst, .bool x.xHave[j].xLast, .bool x.xHave[j].xLoose, .slice A7 x.xHave[j].xBody.length q7] 276)))
      have c0 := hca.c0
      have c1 := hca.ci 0 rfl
      have c2 := hca.ci 1 rfl
      have c3 := hca.ci 2 rfl
      have c4 := hca.ci 3 rfl
      have c5 := hca.ci 4 rfl
      have c6 := hca.ci 5 rfl
      clear hca hcl h7
      have KS := Lib.hid (Blk.new (w := wr) (b := wr.heap.size) #[.int .i64 x.xHave[j].xTsn, .int .i64 x.xHave[j].xStream, .int .i64 x.xHave[j].xSsn, .bool x.xHave[j].xFirst, .bool x.xHave[j].xLast, .bool x.xHave[j].xLoose, .slice A7 x.xHave[j].xBody.length q7] 276 rfl)
      have K1 := Lib.hid (K1.out.alloc (.cells #[.int .i64 x.xHave[j].xTsn, .int .i64 x.xHave[j].xStream, .int .i64 x.xHave[j].xSsn, .bool x.xHave[j].xFirst, .bool x.xHave[j].xLast, .bool x.xHave[j].xLoose, .slice A7 x.xHave[j].xBody.length q7] 276))
      have HB1 := Lib.hid (HB1.out.alloc HB1.out.size (.cells #[.int .i64 x.xHave[j].xTsn, .int .i64 x.xHave[j].xStream, .int .i64 x.xHave[j].xSsn, .bool x.xHave[j].xFirst, .bool x.xHave[j].xLast, .bool x.xHave[j].xLoose, .slice A7 x.xHave[j].xBody.length q7] 276))
      have Hsj := Lib.hid (Hhn.out j x.xHave[j])
      have o0 := K1.out.at (i := 0) rfl
      have o1 := K1.out.at (i := 1) rfl
      have o2 := K1.out.at (i := 2) rfl
      have o3 := K1.out.at (i := 3) rfl
      have o4 := K1.out.at (i := 4) rfl
      go_wp2_with fail
      refine (Hplace.out x.xHave[j].xTsn _ HB1.out).mono ?_
      rintro e w2 ⟨rfl, b2⟩
      have H7 := Lib.hid (H7.out.below b2)
      have KS := Lib.hid (KS.out.keep b2)
      have K1 := Lib.hid (K1.out.keep b2)
      have HB1 := Lib.hid (HB1.out.trans (b2.mono HB1.out.size))
      clear b2 o0 o1 o2 o3 o4 c0 c1 c2 c3 c4 c5 c6
      have o0 := K1.out.at (i := 0) rfl
      have s0 := KS.out.at (i := 0) rfl
      have s1 := KS.out.at (i := 1) rfl
      have s2 := KS.out.at (i := 2) rfl
      have s3 := KS.out.at (i := 3) rfl
      have s4 := KS.out.at (i := 4) rfl
      have s5 := KS.out.at (i := 5) rfl
      have s6 := KS.out.at (i := 6) rfl
      go_wp2_with fail
      refine (datPieceOk_r _ x.xHave[j] _ _ ⟨_, rfl, H7.out⟩ hst).mono ?_
      rintro e w3 ⟨rfl, b3⟩
      have KS := Lib.hid (KS.out.keep b3)
      have K1 := Lib.hid (K1.out.keep b3)
      have HB1 := Lib.hid (HB1.out.trans (b3.mono HB1.out.size))
      clear b3 o0 s0 s1 s2 s3 s4 s5 s6 H7
      rcases h5 : pieceOk x.xHave[j] x.xStreams with _ | _
      · go_wp2
        go_ret
        exact ⟨ret_bool (by have hb := allI_bad hk ((Hsj.out).trans (by simp [h5])); rw [hb]; simp), HB1.out⟩
      have Hpl := Lib.hid (place_of hc (pieceOk_long h5))
      have Hbit := Lib.hid (seenBits_has hc (pieceOk_long h5) Hsa.out)
      have hpb1 : 0 ≤ placeF x.xCum x.xHave[j].xTsn := gapF_lo _ _ _
      have hpb2 : placeF x.xCum x.xHave[j].xTsn ≤ 4294967295 := gapF_hi _ _ _
      have hlo := Hlo.out j
      generalize hpl : placeF x.xCum x.xHave[j].xTsn = pl at *
      clear hpl
      by_cases hle : pl ≤ a
      · go_wp2
        go_ret
        refine ⟨ret_bool ?_, HB1.out⟩
        have hb := allI_bad hk ((Hsj.out).trans (by
          have hla := Hla.out
          have hpl := Hpl.out
          have : ¬ (lst j < posF x.xCum x.xHave[j].xTsn) := by omega
          simp [this]))
        rw [hb]; simp
      by_cases h60 : 60 ≤ pl
      · obtain ⟨m, hm⟩ := Int.eq_ofNat_of_zero_le (gapF_lo x.xCum x.xHave[j].xTsn 32)
        have Hm := Lib.hid hm
        clear hm
        have o0 := K1.out.at (i := 0) rfl
        have o1 := K1.out.at (i := 1) rfl
        have o2 := K1.out.at (i := 2) rfl
        have o3 := K1.out.at (i := 3) rfl
        have o4 := K1.out.at (i := 4) rfl
        have s0 := KS.out.at (i := 0) rfl
        go_wp2_with fail
        refine (Hfar.out x.xHave[j].xTsn _ HB1.out).mono ?_
        rintro e w2 ⟨rfl, b2⟩
        have K1 := Lib.hid (K1.out.keep b2)
        have HB1 := Lib.hid (HB1.out.trans (b2.mono HB1.out.size))
        clear b2 o0 o1 o2 o3 o4 s0
        have hmm := Hm.out
        rw [hmm]
        clear hmm
        have hbit := Hbit.out
        rw [Hm.out] at hbit
        rcases h8 : decide (x.xHave[j].xTsn ∈ x.xSeen) with _ | _
        · go_wp2_with (go_at_call 274; refine (has_any _ m _).mono ?_; rintro e w' ⟨rfl, rfl⟩; rw [show (seenBits x.xCum x.xSeen).getLsbD m = false from hbit.trans h8])
          go_ret
          refine ⟨ret_bool ?_, HB1.out⟩
          have hb := allI_bad hk ((Hsj.out).trans (by
            have hla := Hla.out
            have hpl := Hpl.out
            have hn : (decide (lst j < posF x.xCum x.xHave[j].xTsn) && (decide (posF x.xCum x.xHave[j].xTsn ≤ 60) || false)) = false := by
              rw [Bool.eq_false_iff]
              simp only [ne_eq, Bool.and_eq_true, Bool.or_false, decide_eq_true_eq]
              omega
            rw [h8, hn]; simp))
          rw [hb]; simp
        · go_wp2_with (go_at_call 274; refine (has_any _ m _).mono ?_; rintro e w' ⟨rfl, rfl⟩; rw [show (seenBits x.xCum x.xSeen).getLsbD m = true from hbit.trans h8])
          have hs16 := (Hsa.out _ (of_decide_eq_true h8)).2
          have hpl := Hpl.out
          have hla := Hla.out
          have hpp : posF x.xCum x.xHave[j].xTsn = pl + 1 := by omega
          exact ⟨⟨j + 1, pl, by omega, by go_num, rfl, by omega, by omega, by rw [Hls.out j _ (List.getElem?_eq_getElem hk)]; exact hpp, K1.out, HB1.out, Hu.out.succ hk ((Hsj.out).trans (by rw [h5, h8, hpp, hla]; simp; omega))⟩, by simp [intOf]; omega⟩
      · go_wp2
        have hpl := Hpl.out
        have hla := Hla.out
        have hpp : posF x.xCum x.xHave[j].xTsn = pl + 1 := by omega
        exact ⟨⟨j + 1, pl, by omega, by go_num, rfl, by omega, by omega, by rw [Hls.out j _ (List.getElem?_eq_getElem hk)]; exact hpp, K1.out, HB1.out, Hu.out.succ hk ((Hsj.out).trans (by rw [h5, hpp, hla]; simp; omega))⟩, by simp [intOf]; omega⟩
    · go_wp2
      go_ret
      exact ⟨ret_bool (by have hb := Hu.out.done (by rw [Hl3.out]; omega); rw [hb, decide_eq_true hf]; rfl), HB1.out⟩
theorem inOk_split (x : DDatIn) : inOk x = (ssnsOk x.xStreams x.xSsns && (inB x.xCum 0 4294967295 && ((decide (x.xSeen.length ≤ 16) && allI (seenOk x) x.xSeen) && (decide (x.xHave.length ≤ 24) && allI (haveOk x) x.xHave)))) := by
  unfold inOk
  generalize ssnsOk x.xStreams x.xSsns = a
  generalize inB x.xCum 0 4294967295 = b
  generalize decide (x.xSeen.length ≤ 16) = c
  generalize decide (x.xHave.length ≤ 24) = d
  generalize allI (seenOk x) x.xSeen = e
  generalize allI (haveOk x) x.xHave = f
  cases a <;> cases b <;> cases c <;> cases d <;> cases e <;> cases f <;> rfl
theorem ssns_streams2 {streams : Int} {ssns : List Int} (h : ssnsOk streams ssns = true) : 1 ≤ streams ∧ streams ≤ 8 := by
  simp only [ssnsOk, Bool.and_eq_true] at h
  exact inB_iff.1 h.1
set_option maxHeartbeats 1000000 in
theorem implDatInOk_r (cs : List Value) (x : DDatIn) (w : World) (h : FDatIn w cs x) : Calls Try.prog 197 #[.agg cs.toArray] w fun e w' => e = .returned (.bool (inOk x)) ∧ Below w.heap.size w w' := by
  have HF := Lib.hid h
  obtain ⟨v2, v3, v4, rfl, h2, h3, h4⟩ := h
  have H4 := Lib.hid h4
  clear h2 h3 h4
  have Hout := Lib.hid (inOk_split x)
  have K := Lib.hid (Blk.new (w := w) (b := w.heap.size) #[.int .i64 x.xStreams, .int .i64 x.xCum, v2, v3, v4] 87 rfl)
  have HB := Lib.hid ((Below.refl w.heap.size w).alloc (Nat.le_refl _) (.cells #[.int .i64 x.xStreams, .int .i64 x.xCum, v2, v3, v4] 87))
  rcases h1 : ssnsOk x.xStreams x.xSsns with _ | _
  · go_enter Try.func197, Try.ntmps197
    go_wp2_with (go_at_call 256; refine (datStreamsOk_any _ x.xSsns _ _ (H4.out.below HB.out)).mono ?_; rintro e w' ⟨rfl, rfl⟩; rw [h1])
    go_ret
    exact ⟨ret_bool (by rw [Hout.out, h1]; rfl), HB.out⟩
  have hst := ssns_streams2 h1
  rcases hn : inB x.xCum 0 4294967295 with _ | _
  · go_enter Try.func197, Try.ntmps197
    go_wp2_with (first | (go_at_call 256; refine (datStreamsOk_any _ x.xSsns _ _ (H4.out.below HB.out)).mono ?_; rintro e w' ⟨rfl, rfl⟩; rw [h1]) | (go_at_call 151; refine (frmLong_any _ _).mono ?_; rintro e w' ⟨rfl, rfl⟩; rw [hn]))
    go_ret
    exact ⟨ret_bool (by rw [Hout.out, h1, hn]; rfl), HB.out⟩
  go_enter Try.func197, Try.ntmps197
  go_wp2_with (first | (go_at_call 256; refine (datStreamsOk_any _ x.xSsns _ _ (H4.out.below HB.out)).mono ?_; rintro e w' ⟨rfl, rfl⟩; rw [h1]) | (go_at_call 151; refine (frmLong_any _ _).mono ?_; rintro e w' ⟨rfl, rfl⟩; rw [hn]))
  refine (datSeenOk_r _ x _ (HF.out.below HB.out) hn).mono ?_
  rintro e w1 ⟨rfl, b1⟩
  have K := Lib.hid (K.out.keep b1)
  have HB := Lib.hid (HB.out.trans (b1.mono HB.out.size))
  clear b1
  have k0 := K.out.at (i := 0) rfl
  have k1 := K.out.at (i := 1) rfl
  have k2 := K.out.at (i := 2) rfl
  have k3 := K.out.at (i := 3) rfl
  have k4 := K.out.at (i := 4) rfl
  rcases h3 : (decide (x.xSeen.length ≤ 16) && allI (seenOk x) x.xSeen) with _ | _
  · go_wp2
    go_ret
    exact ⟨ret_bool (by rw [Hout.out, h1, hn, h3]; rfl), HB.out⟩
  have Hall := Lib.hid (show allI (seenOk x) x.xSeen = true by simp only [Bool.and_eq_true] at h3; exact h3.2)
  go_wp2_with fail
  refine (datHaveOk_r _ x _ (HF.out.below HB.out) hst hn Hall.out).mono ?_
  rintro e w2 ⟨rfl, b2⟩
  have HB := Lib.hid (HB.out.trans (b2.mono HB.out.size))
  clear b2
  generalize hqq : (decide (x.xHave.length ≤ 24) && allI (haveOk x) x.xHave) = qq at *
  have Hqq := Lib.hid hqq
  clear hqq
  go_wp2
  go_ret
  exact ⟨ret_bool (by rw [Hout.out, h1, hn, h3]; rfl), HB.out⟩
end Go.Proofs.Ythdjjgbjemaabaa
