/-
  Is a receiving side ok? The model's answer. (Written by wip/tools/geninoks.py.)
-/
import Derived.Test.YthdjjgbjemaabaaInOkI
namespace Go.Proofs.Ythdjjgbjemaabaa
open Go.ChangeShapes Go.WideShapes Go.ChangeAt Go.RowKit
set_option linter.unusedVariables false
set_option linter.unusedSimpArgs false

theorem lastOf_hi {a cum : Int} {ts : List Int} {j : Nat} (ha : a ≤ 61) : lastOf a cum ts j ≤ 4294967295 := by
  unfold lastOf; split
  · omega
  · exact gapF_hi _ _ _
set_option maxRecDepth 100000 in
set_option maxHeartbeats 4000000 in
theorem specDatInOk_r (cs : List Value) (x : DDatIn) (w : World) (h : FDatIn w cs x) : Calls Try.prog 194 #[.agg cs.toArray] w fun e w' => e = .returned (.bool (inOk x)) ∧ Below w.heap.size w w' := by
  have HF := Lib.hid h
  obtain ⟨v2, v3, v4, rfl, h2, h3, h4⟩ := h
  obtain ⟨A2, q2, rfl⟩ := h2.slice
  obtain ⟨A3, q3, rfl⟩ := RdS.slice h3
  obtain ⟨A4, q4, rfl⟩ := h4.slice
  have hc2 := h2.cap
  have hc3 := RdS.cap h3
  have H2 := Lib.hid h2
  have H3 := Lib.hid h3
  have H4 := Lib.hid h4
  clear h2 h3 h4
  have Hpos := Lib.hid (show ∀ t w1, Below w.heap.size w w1 → Calls Try.prog 267 #[.agg #[.int .i64 x.xStreams, .int .i64 x.xCum, .slice A2 x.xSeen.length q2, .slice A3 x.xHave.length q3, .slice A4 x.xSsns.length q4], .int .i64 t] w1 fun e w' => e = .returned (.int .i64 (posF x.xCum t)) ∧ Below w1.heap.size w1 w' from fun t w1 hb => l9Pos_r _ x t w1 (HF.out.below hb))
  have Hout := Lib.hid (show inOk x = (ssnsOk x.xStreams x.xSsns && (inB x.xCum 0 4294967295 && (decide (x.xSeen.length ≤ 16) && (decide (x.xHave.length ≤ 24) && (allI (seenOk x) x.xSeen && allI (haveOk x) x.xHave))))) from rfl)
  have Hsn := Lib.hid (show ∀ j t, seenOk x j t = (inB t 0 4294967295 && (decide (lastOf 61 x.xCum x.xSeen j < posF x.xCum t) && decide (posF x.xCum t ≤ 76))) from fun _ _ => rfl)
  have Hhn := Lib.hid (show ∀ j p, haveOk x j p = (pieceOk p x.xStreams && (decide (lastOf 0 x.xCum (x.xHave.map (·.xTsn)) j < posF x.xCum p.xTsn) && (decide (posF x.xCum p.xTsn ≤ 60) || decide (p.xTsn ∈ x.xSeen)))) from fun _ _ => rfl)
  have Hlh := Lib.hid (show ∀ (j : Nat) (p : DDatPiece), x.xHave[j]? = some p → lastOf 0 x.xCum (x.xHave.map (·.xTsn)) (j + 1) = posF x.xCum p.xTsn from fun j p hp => by obtain ⟨hj, rfl⟩ := List.getElem?_eq_some_iff.1 hp; exact lastHave_succ hj)
  have Hls := Lib.hid (show ∀ (j : Nat) (t : Int), x.xSeen[j]? = some t → lastOf 61 x.xCum x.xSeen (j + 1) = posF x.xCum t from fun j t hp => by obtain ⟨hj, rfl⟩ := List.getElem?_eq_some_iff.1 hp; exact lastOf_succ hj)
  have Hz1 := Lib.hid (show lastOf 61 x.xCum x.xSeen 0 = 61 from rfl)
  have Hz2 := Lib.hid (show lastOf 0 x.xCum (x.xHave.map (·.xTsn)) 0 = 0 from rfl)
  have Hb1 := Lib.hid (show ∀ j, 0 ≤ lastOf 61 x.xCum x.xSeen j ∧ lastOf 61 x.xCum x.xSeen j ≤ 4294967295 from fun j => ⟨lastOf_lo (by omega), lastOf_hi (by omega)⟩)
  have Hb2 := Lib.hid (show ∀ j, 0 ≤ lastOf 0 x.xCum (x.xHave.map (·.xTsn)) j ∧ lastOf 0 x.xCum (x.xHave.map (·.xTsn)) j ≤ 4294967295 from fun j => ⟨lastOf_lo (by omega), lastOf_hi (by omega)⟩)
  generalize hl2 : x.xSeen.length = n2 at *
  generalize hl3 : x.xHave.length = n3 at *
  have Hl2 := Lib.hid hl2
  have Hl3 := Lib.hid hl3
  clear hl2 hl3
  generalize lastOf 61 x.xCum x.xSeen = ls at *
  generalize lastOf 0 x.xCum (x.xHave.map (·.xTsn)) = lh at *
  have K := Lib.hid (Blk.new (w := w) (b := w.heap.size) #[.int .i64 x.xStreams, .int .i64 x.xCum, .slice A2 n2 q2, .slice A3 n3 q3, .slice A4 x.xSsns.length q4] 87 rfl)
  have HB := Lib.hid ((Below.refl w.heap.size w).alloc (Nat.le_refl _) (.cells #[.int .i64 x.xStreams, .int .i64 x.xCum, .slice A2 n2 q2, .slice A3 n3 q3, .slice A4 x.xSsns.length q4] 87))
  rcases h1 : ssnsOk x.xStreams x.xSsns with _ | _
  · go_enter Try.func194, Try.ntmps194
    go_wp2_with (go_at_call 253; refine (l8Ssns_any _ x.xSsns _ _ (H4.out.below HB.out)).mono ?_; rintro e w' ⟨rfl, rfl⟩; rw [h1])
    go_ret
    exact ⟨ret_bool (by rw [Hout.out, h1]; rfl), HB.out⟩
  have hst := ssns_streams2 h1
  rcases hn : inB x.xCum 0 4294967295 with _ | _
  · go_enter Try.func194, Try.ntmps194
    go_wp2_with (first | (go_at_call 253; refine (l8Ssns_any _ x.xSsns _ _ (H4.out.below HB.out)).mono ?_; rintro e w' ⟨rfl, rfl⟩; rw [h1]) | (go_at_call 145; refine (l4Long_any _ _).mono ?_; rintro e w' ⟨rfl, rfl⟩; rw [hn]))
    go_ret
    exact ⟨ret_bool (by rw [Hout.out, h1, hn]; rfl), HB.out⟩
  rcases Nat.lt_or_ge 16 n2 with hf | hf
  · go_enter Try.func194, Try.ntmps194
    go_wp2_with (first | (go_at_call 253; refine (l8Ssns_any _ x.xSsns _ _ (H4.out.below HB.out)).mono ?_; rintro e w' ⟨rfl, rfl⟩; rw [h1]) | (go_at_call 145; refine (l4Long_any _ _).mono ?_; rintro e w' ⟨rfl, rfl⟩; rw [hn]))
    go_ret
    exact ⟨ret_bool (by rw [Hout.out, h1, hn, decide_eq_false (Nat.not_le.2 hf)]; rfl), HB.out⟩
  rcases Nat.lt_or_ge 24 n3 with hq | hq
  · go_enter Try.func194, Try.ntmps194
    go_wp2_with (first | (go_at_call 253; refine (l8Ssns_any _ x.xSsns _ _ (H4.out.below HB.out)).mono ?_; rintro e w' ⟨rfl, rfl⟩; rw [h1]) | (go_at_call 145; refine (l4Long_any _ _).mono ?_; rintro e w' ⟨rfl, rfl⟩; rw [hn]))
    go_ret
    exact ⟨ret_bool (by rw [Hout.out, h1, hn, decide_eq_true hf, decide_eq_false (Nat.not_le.2 hq)]; rfl), HB.out⟩
  go_enter Try.func194, Try.ntmps194
  go_wp2_with (first | (go_at_call 253; refine (l8Ssns_any _ x.xSsns _ _ (H4.out.below HB.out)).mono ?_; rintro e w' ⟨rfl, rfl⟩; rw [h1]) | (go_at_call 145; refine (l4Long_any _ _).mono ?_; rintro e w' ⟨rfl, rfl⟩; rw [hn]))
  go_loopw [3, 4] (fun q i w1 => ∃ j : Nat, j ≤ n2 ∧ i = .int .i64 j ∧ q = .int .i64 (ls j) ∧ Blk w1 w.heap.size [.int .i64 x.xStreams, .int .i64 x.xCum, .slice A2 n2 q2, .slice A3 n3 q3, .slice A4 x.xSsns.length q4] ∧ Below w.heap.size w w1 ∧ UpTo (seenOk x) x.xSeen j) (fun _ i _ => n2 - (intOf i).toNat)
  case atStart => exact ⟨0, by omega, rfl, by rw [Hz1.out], K.out, HB.out, UpTo.zero⟩
  case round =>
    obtain ⟨j, hj, rfl, rfl, hk1, hb1, hu⟩ := hrel
    have Hu := Lib.hid hu
    have K1 := Lib.hid hk1
    have HB1 := Lib.hid hb1
    clear hu hk1 hb1
    have o2 := K1.out.at (i := 2) rfl
    by_cases hlt : j < n2
    · obtain ⟨ad, hk, rfl, hc'⟩ := (H2.out.below HB1.out).at_ hlt
      have HC := Lib.hid hc'
      clear hc'
      have Hsj := Lib.hid (Hsn.out j x.xSeen[j])
      go_wp2_with fail
      clear o2
      refine wp_region_steady (fun y => Blk y w.heap.size [.int .i64 x.xStreams, .int .i64 x.xCum, .slice (some ad) n2 q2, .slice A3 n3 q3, .slice A4 x.xSsns.length q4] ∧ y.cell? (ad.add j) = some (.int .i64 x.xSeen[j]) ∧ Below wr.heap.size wr y) (by kernel_rfl) (by kernel_rfl) (⟨K1.out.drew, cellKeep HC.out (Below.refl _ _).drew, (Below.refl _ _).drew⟩) ?_
      repeat
        (first
          | (refine steady_no (by rfl) ?_)
          | (refine' steady_val (v := _) (by rfl) ?_ ?_
             rotate_left
             focus (intro y hS; have a0 := hS.1.at (i := 0) rfl; have a1 := hS.1.at (i := 1) rfl; have a2 := hS.1.at (i := 2) rfl; have a3 := hS.1.at (i := 3) rfl; have a4 := hS.1.at (i := 4) rfl; have c0 := hS.2.1; clear hS; go_simp; first | done | with_reducible rfl))
          | (refine' steady_call (f := _) (args := _) _ (by rfl) ?_ ?_ ?_
             rotate_left 3
             focus (intro y hS; have a0 := hS.1.at (i := 0) rfl; have a1 := hS.1.at (i := 1) rfl; have a2 := hS.1.at (i := 2) rfl; have a3 := hS.1.at (i := 3) rfl; have a4 := hS.1.at (i := 4) rfl; have c0 := hS.2.1; clear hS; go_simp; first | done | with_reducible rfl | (refine ⟨?_, ?_⟩ <;> with_reducible rfl))
             focus (intro y hS; first
              | (refine (Hpos.out x.xSeen[j] y (belowOn HB1.out HB1.out.size hS.2.2)).mono ?_; rintro e y' ⟨rfl, hb⟩; exact ⟨by with_reducible rfl, ⟨hS.1.keep hb, cellKeep hS.2.1 hb, belowOn hS.2.2 hS.2.2.size hb⟩⟩)))
         simp only [Act.put, List.setIfInBounds_toArray, List.set_cons_zero, List.set_cons_succ])
      refine steady_nil ?_
      intro w3 hS3
      have KF := Lib.hid hS3.1
      have HC := Lib.hid hS3.2.1
      have Hfin := Lib.hid (belowOn HB1.out HB1.out.size hS3.2.2)
      clear hS3
      have o2 := KF.out.at (i := 2) rfl
      have c0 := HC.out
      have hb1 := Hb1.out j
      have hp1 : 0 ≤ posF x.xCum x.xSeen[j] := gapF_lo _ _ _
      have hp2 : posF x.xCum x.xSeen[j] ≤ 4294967295 := gapF_hi _ _ _
      have Hnx := Lib.hid (Hls.out j _ (List.getElem?_eq_getElem hk))
      generalize hps : posF x.xCum x.xSeen[j] = ps at *
      have Hps := Lib.hid hps
      clear hps
      rcases h3 : inB x.xSeen[j] 0 4294967295 with _ | _
      · go_wp2_with (go_at_call 145; refine (l4Long_any _ _).mono ?_; rintro e w' ⟨rfl, rfl⟩; rw [h3])
        go_ret
        exact ⟨ret_bool (by have hb := allI_bad hk ((Hsj.out).trans (by simp [h3])); rw [Hout.out, hb]; simp), Hfin.out⟩
      by_cases h4 : ps ≤ ls j
      · go_wp2_with (go_at_call 145; refine (l4Long_any _ _).mono ?_; rintro e w' ⟨rfl, rfl⟩; rw [h3])
        go_ret
        exact ⟨ret_bool (by have hb := allI_bad hk ((Hsj.out).trans (by simp [Int.not_lt.2 h4])); rw [Hout.out, hb]; simp), Hfin.out⟩
      by_cases h5 : 76 < ps
      · go_wp2_with (go_at_call 145; refine (l4Long_any _ _).mono ?_; rintro e w' ⟨rfl, rfl⟩; rw [h3])
        go_ret
        exact ⟨ret_bool (by have hb := allI_bad hk ((Hsj.out).trans (by simp [Int.not_le.2 h5])); rw [Hout.out, hb]; simp), Hfin.out⟩
      · go_wp2_with (go_at_call 145; refine (l4Long_any _ _).mono ?_; rintro e w' ⟨rfl, rfl⟩; rw [h3])
        exact ⟨⟨j + 1, by omega, by go_num, by rw [Hnx.out], KF.out, Hfin.out, Hu.out.succ hk ((Hsj.out).trans (by rw [h3, decide_eq_true (by omega : ls j < ps), decide_eq_true (by omega : ps ≤ 76)]; rfl))⟩, by simp [intOf]; omega⟩
    · have : j = n2 := by omega
      subst this
      have Hall := Lib.hid (Hu.out.done (by rw [Hl2.out]; omega))
      go_wp2
      clear o2
      go_loopw [3, 6] (fun q i w1 => ∃ k : Nat, k ≤ n3 ∧ i = .int .i64 k ∧ q = .int .i64 (lh k) ∧ Blk w1 w.heap.size [.int .i64 x.xStreams, .int .i64 x.xCum, .slice A2 j q2, .slice A3 n3 q3, .slice A4 x.xSsns.length q4] ∧ Below w.heap.size w w1 ∧ UpTo (haveOk x) x.xHave k) (fun _ i _ => n3 - (intOf i).toNat)
      case atStart => exact ⟨0, by omega, rfl, by rw [Hz2.out], K1.out, HB1.out, UpTo.zero⟩
      case round =>
        obtain ⟨k, hj, rfl, rfl, hk1, hb1, hu⟩ := hrel
        have Hu := Lib.hid hu
        have K1 := Lib.hid hk1
        have HB1 := Lib.hid hb1
        clear hu hk1 hb1
        by_cases hlt : k < n3
        · obtain ⟨ad, cs, hk, rfl, hcl, hca, hE⟩ := RdS.at_ (H3.out.below HB1.out) hlt
          obtain ⟨v7, rfl, h7⟩ := hE
          obtain ⟨A7, q7, rfl⟩ := h7.slice
          have H7 := Lib.hid (h7.below ((Below.refl _ _).alloc (Nat.le_refl _) (.cells #[.int .i64 x.xHave[k].xTsn, .int .i64 x.xHave[k].xStream, .int .i64 x.xHave[k].xSsn, .bool x.xHave[k].xFirst, .bool x.xHave[k].xLast, .bool x.xHave[k].xLoose, .slice A7 x.xHave[k].xBody.length q7] 276)))
          have c0 := hca.c0
          have c1 := hca.ci 0 rfl
          have c2 := hca.ci 1 rfl
          have c3 := hca.ci 2 rfl
          have c4 := hca.ci 3 rfl
          have c5 := hca.ci 4 rfl
          have c6 := hca.ci 5 rfl
          clear hca hcl h7
          have p3 := K1.out.at (i := 3) rfl
          have KS := Lib.hid (Blk.new (w := wr) (b := wr.heap.size) #[.int .i64 x.xHave[k].xTsn, .int .i64 x.xHave[k].xStream, .int .i64 x.xHave[k].xSsn, .bool x.xHave[k].xFirst, .bool x.xHave[k].xLast, .bool x.xHave[k].xLoose, .slice A7 x.xHave[k].xBody.length q7] 276 rfl)
          have K1 := Lib.hid (K1.out.alloc (.cells #[.int .i64 x.xHave[k].xTsn, .int .i64 x.xHave[k].xStream, .int .i64 x.xHave[k].xSsn, .bool x.xHave[k].xFirst, .bool x.xHave[k].xLast, .bool x.xHave[k].xLoose, .slice A7 x.xHave[k].xBody.length q7] 276))
          have HB1 := Lib.hid (HB1.out.alloc HB1.out.size (.cells #[.int .i64 x.xHave[k].xTsn, .int .i64 x.xHave[k].xStream, .int .i64 x.xHave[k].xSsn, .bool x.xHave[k].xFirst, .bool x.xHave[k].xLast, .bool x.xHave[k].xLoose, .slice A7 x.xHave[k].xBody.length q7] 276))
          have Hsj := Lib.hid (Hhn.out k x.xHave[k])
          have o0 := K1.out.at (i := 0) rfl
          have o1 := K1.out.at (i := 1) rfl
          have o2 := K1.out.at (i := 2) rfl
          have o3 := K1.out.at (i := 3) rfl
          have o4 := K1.out.at (i := 4) rfl
          go_wp2_with fail
          refine (Hpos.out x.xHave[k].xTsn _ HB1.out).mono ?_
          rintro e w2 ⟨rfl, b2⟩
          have H7 := Lib.hid (H7.out.below b2)
          have KS := Lib.hid (KS.out.keep b2)
          have K1 := Lib.hid (K1.out.keep b2)
          have HB1 := Lib.hid (HB1.out.trans (b2.mono HB1.out.size))
          clear b2 o0 o1 o2 o3 o4 c0 c1 c2 c3 c4 c5 c6 p3
          have o0 := K1.out.at (i := 0) rfl
          have s0 := KS.out.at (i := 0) rfl
          have s1 := KS.out.at (i := 1) rfl
          have s2 := KS.out.at (i := 2) rfl
          have s3 := KS.out.at (i := 3) rfl
          have s4 := KS.out.at (i := 4) rfl
          have s5 := KS.out.at (i := 5) rfl
          have s6 := KS.out.at (i := 6) rfl
          go_wp2_with fail
          refine (l8PieceOk_r _ x.xHave[k] _ _ ⟨_, rfl, H7.out⟩ hst).mono ?_
          rintro e w3 ⟨rfl, b3⟩
          have KS := Lib.hid (KS.out.keep b3)
          have K1 := Lib.hid (K1.out.keep b3)
          have HB1 := Lib.hid (HB1.out.trans (b3.mono HB1.out.size))
          clear b3 o0 s0 s1 s2 s3 s4 s5 s6 H7
          have o2 := K1.out.at (i := 2) rfl
          have s0 := KS.out.at (i := 0) rfl
          have H2k := Lib.hid (H2.out.below HB1.out)
          have hb2 := Hb2.out k
          have hp1 : 0 ≤ posF x.xCum x.xHave[k].xTsn := gapF_lo _ _ _
          have hp2 : posF x.xCum x.xHave[k].xTsn ≤ 4294967295 := gapF_hi _ _ _
          have Hnx := Lib.hid (Hlh.out k _ (List.getElem?_eq_getElem hk))
          generalize hps : posF x.xCum x.xHave[k].xTsn = ps at *
          clear hps
          rcases h5 : pieceOk x.xHave[k] x.xStreams with _ | _
          · go_wp2
            go_ret
            exact ⟨ret_bool (by have hb := allI_bad hk ((Hsj.out).trans (by simp [h5])); rw [Hout.out, hb]; simp), HB1.out⟩
          by_cases h6 : ps ≤ lh k
          · go_wp2
            go_ret
            exact ⟨ret_bool (by have hb := allI_bad hk ((Hsj.out).trans (by simp [Int.not_lt.2 h6])); rw [Hout.out, hb]; simp), HB1.out⟩
          by_cases h7 : 60 < ps
          · rcases h8 : decide (x.xHave[k].xTsn ∈ x.xSeen) with _ | _
            · go_wp2_with (go_at_call 130; refine (l9Has_any _ x.xSeen _ _ H2k.out).mono ?_; rintro e w' ⟨rfl, rfl⟩; rw [h8])
              go_ret
              exact ⟨ret_bool (by have hb := allI_bad hk ((Hsj.out).trans (by rw [h8, decide_eq_false (by omega : ¬ ps ≤ 60)]; simp)); rw [Hout.out, hb]; simp), HB1.out⟩
            · go_wp2_with (go_at_call 130; refine (l9Has_any _ x.xSeen _ _ H2k.out).mono ?_; rintro e w' ⟨rfl, rfl⟩; rw [h8])
              exact ⟨⟨k + 1, by omega, by go_num, by rw [Hnx.out], K1.out, HB1.out, Hu.out.succ hk ((Hsj.out).trans (by rw [h5, h8, decide_eq_true (by omega : lh k < ps)]; simp))⟩, by simp [intOf]; omega⟩
          · go_wp2
            exact ⟨⟨k + 1, by omega, by go_num, by rw [Hnx.out], K1.out, HB1.out, Hu.out.succ hk ((Hsj.out).trans (by rw [h5, decide_eq_true (by omega : lh k < ps), decide_eq_true (by omega : ps ≤ 60)]; rfl))⟩, by simp [intOf]; omega⟩
        · have o3 := K1.out.at (i := 3) rfl
          go_wp2
          go_ret
          exact ⟨ret_bool (by have hb := Hu.out.done (by rw [Hl3.out]; omega); rw [Hout.out, Hall.out, hb, h1, hn, decide_eq_true hf, decide_eq_true hq]; rfl), HB1.out⟩
end Go.Proofs.Ythdjjgbjemaabaa
