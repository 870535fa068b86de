/-
  The answer of a receiving side: the model's. (Written by wip/tools/genack.py.)
-/
import Derived.Test.YthdjjgbjemaabaaAckM
namespace Go.Proofs.Ythdjjgbjemaabaa
open Go.ChangeShapes Go.WideShapes Go.ChangeAt Go.RowKit
set_option linter.unusedVariables false
set_option linter.unusedSimpArgs false

set_option maxRecDepth 100000 in
set_option maxHeartbeats 4000000 in
theorem specDatAck_n (cs : List Value) (x : DDatIn) (w : World) (h : FDatIn w cs x) (hz : zDatIn x ≤ 1048576) : Calls Try.prog 78 #[.agg cs.toArray] w fun e w' => ∃ v f, e = .returned (.tuple #[.int .i64 (ackCum x), v]) ∧ OwFrmGapS w' f v (ackGaps x) ∧ Nw w.heap.size w'.heap.size f ∧ Below w.heap.size w w' := by
  unfold OwFrmGapS
  have HF := Lib.hid h
  obtain ⟨v2, v3, v4, rfl, h2, h3, h4⟩ := h
  obtain ⟨A2, q2, rfl⟩ := h2.slice
  obtain ⟨A3, q3, rfl⟩ := RdS.slice h3
  obtain ⟨A4, q4, rfl⟩ := h4.slice
  have hc2 := h2.cap
  have H2 := Lib.hid h2
  clear h2 h3 h4
  have hn2 : x.xSeen.length ≤ 1048576 := by unfold zDatIn at hz; omega
  clear hz
  have Hu1 := Lib.hid (show inOk x = false → ackGaps x = [] ∧ ackCum x = 0 from fun h => by simp [ackGaps, ackCum, h])
  have Hu2 := Lib.hid (show inOk x = true → ackGaps x = (runsF (farsF x)).take 4 ∧ ackCum x = x.xCum from fun h => by simp [ackGaps, ackCum, h])
  have Hnl := Lib.hid (show (farsF x).length = x.xSeen.length by simp [farsF])
  have Hna := Lib.hid (show ∀ (j : Nat) (t : Int), x.xSeen[j]? = some t → (farsF x)[j]? = some (gapF x.xCum t 32) from fun j t ht => by simp [farsF, ht])
  generalize ackGaps x = ag at *
  generalize ackCum x = ac at *
  generalize farsF x = ns at *
  generalize hl2 : x.xSeen.length = n2 at *
  have Hl2 := Lib.hid hl2
  clear hl2
  have K := Lib.hid (Blk.new (w := w) (b := w.heap.size) #[.int .i64 x.xStreams, .int .i64 x.xCum, .slice A2 n2 q2, .slice A3 x.xHave.length q3, .slice A4 x.xSsns.length q4] 87 rfl)
  have HB := Lib.hid ((Below.refl w.heap.size w).alloc (Nat.le_refl _) (.cells #[.int .i64 x.xStreams, .int .i64 x.xCum, .slice A2 n2 q2, .slice A3 x.xHave.length q3, .slice A4 x.xSsns.length q4] 87))
  have M := Lib.hid (OwL.lit0 (e := 223) (m := 2) (E := EFrmGap) (w.alloc (.cells #[.int .i64 x.xStreams, .int .i64 x.xCum, .slice A2 n2 q2, .slice A3 x.xHave.length q3, .slice A4 x.xSsns.length q4] 87)))
  have MN := Lib.hid (show Nw (w.heap.size + 1) ((w.alloc (.cells #[.int .i64 x.xStreams, .int .i64 x.xCum, .slice A2 n2 q2, .slice A3 x.xHave.length q3, .slice A4 x.xSsns.length q4] 87)).alloc (.cells #[] 223)).heap.size [w.heap.size + 1] from ⟨by simp, by simp⟩)
  replace K := Lib.hid (K.out.alloc (.cells #[] 223))
  replace HB := Lib.hid (HB.out.alloc (by simp) (.cells #[] 223))
  simp only [World.size_alloc] at M
  go_enter Try.func78, Try.ntmps78
  go_wp2_with fail
  refine (specDatInOk_r _ x _ (HF.out.below HB.out)).mono ?_
  rintro e w1 ⟨rfl, b1⟩
  have Z1 := Lib.hid (show w.heap.size + 1 ≤ w1.heap.size by have := b1.size; simp at this; omega)
  replace K := Lib.hid (K.out.keep b1)
  replace HB := Lib.hid (HB.out.trans (b1.mono HB.out.size))
  have M1 := Lib.hid (show OwL 223 2 EFrmGap w1 [w.heap.size + 1] (.slice (some ⟨w.heap.size + 1, 0, none⟩) 0 0) [] from M.out.below EFrmGap.framed EFrmGap.inside b1)
  have MN1 := Lib.hid (MN.out.mono (Nat.le_refl _) b1.size)
  clear M MN
  clear b1
  rcases hok : inOk x with _ | _
  · obtain ⟨hu, hm⟩ := Hu1.out hok
    have Hu := Lib.hid hu
    have Hm := Lib.hid hm
    clear hu hm
    go_wp2
    refine bodyPost_ret (v := .tuple #[.int .i64 0, .slice (some ⟨w.heap.size + 1, 0, none⟩) 0 0]) (by simp [results, Try.results78, go_sem]) rfl ?_
    exact ⟨_, [w.heap.size + 1], by rw [Hm.out], by rw [Hu.out]; exact M1.out, MN1.out.mono (Nat.le_succ _) (Nat.le_refl _), HB.out⟩
  obtain ⟨hu, hm⟩ := Hu2.out hok
  have Hu := Lib.hid hu
  have Hm := Lib.hid hm
  clear hu hm
  go_wp2
  go_loopw [4, 5] (fun q i w1 => ∃ (j : Nat) (f : List Nat), j ≤ n2 ∧ i = .int .i64 j ∧ OwL 223 2 EFrmGap w1 f q (runsF (ns.take j)) ∧ (runsF (ns.take j)).length ≤ 4 ∧ Nw (w.heap.size + 1) w1.heap.size f ∧ w.heap.size + 1 ≤ w1.heap.size ∧ Blk w1 w.heap.size [.int .i64 x.xStreams, .int .i64 x.xCum, .slice A2 n2 q2, .slice A3 x.xHave.length q3, .slice A4 x.xSsns.length q4] ∧ Below w.heap.size w w1) (fun _ i _ => n2 - (intOf i).toNat)
  case atStart => exact ⟨0, _, by omega, rfl, M1.out, by simp [runsF], MN1.out, Z1.out, K.out, HB.out⟩
  case round =>
    clear M1 MN1 Z1
    obtain ⟨j, f, hj, rfl, ho, hl4, hnw, hz1, hk1, hb1⟩ := hrel
    have Ho := Lib.hid ho
    have Hn := Lib.hid hnw
    have Z := Lib.hid hz1
    replace K := Lib.hid hk1
    replace HB := Lib.hid hb1
    have Hl4 := Lib.hid hl4
    obtain ⟨QA, qc, rfl⟩ := OwL.slice ho
    clear ho hnw hz1 hk1 hb1 hl4
    have k2 := K.out.at (i := 2) rfl
    by_cases hlt : j < n2
    · obtain ⟨ad, hk, rfl, hc'⟩ := (H2.out.below HB.out).at_ hlt
      have HC := Lib.hid hc'
      clear hc'
      have Hnj := Lib.hid (Hna.out j x.xSeen[j] (List.getElem?_eq_getElem hk))
      have hg0 : 0 ≤ gapF x.xCum x.xSeen[j] 32 := gapF_lo _ _ _
      have hg1 : gapF x.xCum x.xSeen[j] 32 ≤ 4294967295 := gapF_hi _ _ _
      go_wp2_with fail
      clear k2
      refine wp_region_steady (fun y => Blk y w.heap.size [.int .i64 x.xStreams, .int .i64 x.xCum, .slice (some ad) n2 q2, .slice A3 x.xHave.length q3, .slice A4 x.xSsns.length q4] ∧ y.cell? (ad.add j) = some (.int .i64 x.xSeen[j]) ∧ Below wr.heap.size wr y) (by kernel_rfl) (by kernel_rfl) (⟨K.out.drew, cellKeep HC.out (Below.refl _ _).drew, (Below.refl _ _).drew⟩) ?_
      repeat
        (first
          | (refine steady_no (by rfl) ?_)
          | (refine' steady_val (v := _) (by rfl) ?_ ?_
             rotate_left
             focus (intro y hS; have a1 := hS.1.at (i := 1) rfl; have a2 := hS.1.at (i := 2) rfl; have c0 := hS.2.1; clear hS; go_simp; first | done | with_reducible rfl))
          | (refine' steady_call (f := _) (args := _) _ (by rfl) ?_ ?_ ?_
             rotate_left 3
             focus (intro y hS; go_simp; first | done | with_reducible rfl | (refine ⟨?_, ?_⟩ <;> with_reducible rfl))
             focus (intro y hS; refine (specGap_any x.xCum x.xSeen[j] 32 y).mono ?_; rintro e y' ⟨rfl, rfl⟩; exact ⟨by with_reducible rfl, hS⟩))
         simp only [Act.put, List.setIfInBounds_toArray, List.set_cons_zero, List.set_cons_succ])
      refine steady_nil ?_
      intro w3 hS3
      have b3 : Below wr.heap.size wr w3 := hS3.2.2
      replace K := Lib.hid hS3.1
      replace Ho := Lib.hid (Ho.out.below EFrmGap.framed EFrmGap.inside b3)
      replace Hn := Lib.hid (Hn.out.mono (Nat.le_refl _) b3.size)
      replace Z := Lib.hid (Nat.le_trans Z.out b3.size)
      replace HB := Lib.hid (HB.out.trans (b3.mono HB.out.size))
      clear b3 hS3 HC
      have Hs := Lib.hid (show runsF (ns.take (j + 1)) = ackStep (runsF (ns.take j)) (gapF x.xCum x.xSeen[j] 32) by
        obtain ⟨h1, h2⟩ := List.getElem?_eq_some_iff.1 Hnj.out
        rw [List.take_succ_eq_append_getElem h1, h2, runsF_snoc])
      have Hend := Lib.hid (show (runsF (ns.take j)).length = 4 → ackStep (runsF (ns.take j)) (gapF x.xCum x.xSeen[j] 32) = runsF (ns.take j) ++ [⟨gapF x.xCum x.xSeen[j] 32, gapF x.xCum x.xSeen[j] 32⟩] → (runsF ns).take 4 = runsF (ns.take j) from fun h1 h2 => runsF_take Hnj.out h1 h2)
      generalize hgg : gapF x.xCum x.xSeen[j] 32 = g at *
      clear hgg
      generalize hgs : runsF (ns.take j) = gs at *
      clear hgs
      by_cases hms : gs = []
      · subst hms
        have b5 := (Below.refl w3.heap.size w3).alloc (Nat.le_refl _) (.cells #[.int .i64 g, .int .i64 g] 223)
        have O5 := Lib.hid (Ho.out.below EFrmGap.framed EFrmGap.inside b5)
        have N5 := Lib.hid (Hn.out.mono (Nat.le_refl _) b5.size)
        have KN := Lib.hid (Blk.new (w := w3) (b := w3.heap.size) #[.int .i64 g, .int .i64 g] 223 rfl)
        have L5 := Lib.hid (Nat.le_trans Z.out b5.size)
        have K5 := Lib.hid (K.out.keep b5)
        have B5 := Lib.hid (HB.out.trans (b5.mono HB.out.size))
        have Hst := Lib.hid (show ackStep [] g = [] ++ [⟨g, g⟩] from ackStep_new (by intro k h; simp at h))
        clear b5
        go_wp2_with (at_builtin; go_loud (refine wpList_push (lo := w.heap.size + 1) (a := ⟨w3.heap.size, 0, none⟩) (c := 1) (ys := [⟨g, g⟩]) EFrmGap.framed EFrmGap.inside elemFrmGap _ rfl (.tmp 51) (.tmp 55) rfl rfl rfl O5.out N5.out L5.out (Els.one (f := []) ⟨rfl, rfl⟩ rfl) (Nw.nil _ _) (by simp) (fun i u hu => by rw [add_zero_blk]; exact KN.out.at hu) (by simp [Value.oneCell']) (by simp) ?_))
        intro v' w6 f6 h1 h2 h3 _
        have bb : Below (w.heap.size + 1) (w3.alloc (.cells #[.int .i64 g, .int .i64 g] 223)) w6 := (Below.refl _ _).grown h3 L5.out (fun k hk' => (N5.out.2 k (O5.out.own_mem k (by simp [hk']))).1)
        have H1 := Lib.hid h1
        have H2' := Lib.hid h2
        have Z6 := Lib.hid (Nat.le_trans L5.out bb.size)
        have K6 := Lib.hid (K5.out.below bb (Nat.lt_succ_self _))
        have B6 := Lib.hid (B5.out.trans (bb.mono (Nat.le_succ _)))
        clear h1 h2 h3 bb
        go_wp2
        exact ⟨⟨j + 1, f6, by omega, by go_num, by rw [Hs.out, Hst.out]; exact H1.out, by rw [Hs.out, Hst.out]; simp, H2'.out, Z6.out, K6.out, B6.out⟩, by simp [intOf]; omega⟩
      · obtain ⟨k, hkm⟩ : ∃ k, gs.length = k + 1 := ⟨gs.length - 1, by have := List.length_pos_iff.2 hms; omega⟩
        clear hms
        have hk4 : k ≤ 3 := by have := Hl4.out; omega
        obtain ⟨y, hy⟩ : ∃ y, gs[k]? = some y := ⟨gs[k], List.getElem?_eq_getElem (by omega)⟩
        have Hy := Lib.hid hy
        clear hy
        rw [hkm] at Ho ⊢
        obtain ⟨gb, rfl⟩ := Ho.out.form0 (by omega)
        obtain ⟨hcell, hfrz, hgf, hset⟩ := OwFrmGapS.setTo Ho.out Hn.out.1 (show k < k + 1 by omega) Hy.out
        have Hset := Lib.hid hset
        have hfz := hfrz (k * 2 + 1)
        have Hgb := Lib.hid (show w.heap.size + 1 ≤ gb from (Hn.out.2 gb hgf).1)
        clear hset hfrz hgf
        have hcast : ((k + 1 : Nat) : Int) - 1 = (k : Int) := by omega
        have hcast2 : (k : Int) + 1 - 1 = (k : Int) := by omega
        have hx1 : (k : Int) < (k : Int) + 1 := by omega
        have hw1 : IntKind.i64.wrap ((k : Int) + 1 - 1) = k := by rw [IntWalk.i64_in _ (by omega)]; omega
        have hw2 : IntKind.i64.wrap (k : Int) = k := by rw [IntWalk.i64_in _ (by omega)]
        by_cases hyy : y.xTo = g - 1
        · have Hst := Lib.hid (ackStep_on hkm Hy.out hyy)
          have d1 : (y.xTo == g - 1) = true := by simpa using hyy
          have Hl := Lib.hid (show (gs.set k { y with xTo := g }).length ≤ 4 by rw [List.length_set, hkm]; omega)
          clear hyy
          go_wp2
          refine ⟨⟨j + 1, f, by omega, by go_num, by rw [Hs.out, Hst.out]; exact Hset.out g, by rw [Hs.out, Hst.out]; exact Hl.out, ?_, ?_, ?_, ?_⟩, by simp [intOf]; omega⟩
          · have h := Hn.out; simpa [size_set] using h
          · have h := Z.out; simpa [size_set] using h
          · exact K.out.far (by have := Hgb.out; simp; omega)
          · exact HB.out.setCell (by have := Hgb.out; simp; omega) _
        · have hst : ackStep gs g = gs ++ [⟨g, g⟩] := by
            refine ackStep_new fun k' hk' y' hy' he => ?_
            obtain rfl : k' = k := by omega
            have hy := Hy.out
            rw [hy] at hy'
            injection hy' with hy'
            subst hy'
            exact hyy he
          have Hst := Lib.hid hst
          clear hst
          have d1 : (y.xTo == g - 1) = false := by simpa using hyy
          clear hyy
          by_cases h4 : k = 3
          · subst h4
            have Hfin := Lib.hid (Hend.out (by omega) Hst.out)
            have k1 := K.out.at (i := 1) rfl
            go_wp2
            refine bodyPost_ret (v := .tuple #[.int .i64 x.xCum, .slice (some ⟨gb, 0, none⟩) (3 + 1) qc]) (by simp [results, Try.results78, go_sem]) rfl ?_
            exact ⟨_, f, by rw [Hm.out], by rw [Hu.out, Hfin.out]; exact Ho.out, Hn.out.mono (Nat.le_succ _) (Nat.le_refl _), HB.out⟩
          · have hk3 : (k : Int) + 1 < 4 := by omega
            have b5 := (Below.refl w3.heap.size w3).alloc (Nat.le_refl _) (.cells #[.int .i64 g, .int .i64 g] 223)
            have O5 := Lib.hid (Ho.out.below EFrmGap.framed EFrmGap.inside b5)
            have N5 := Lib.hid (Hn.out.mono (Nat.le_refl _) b5.size)
            have KN := Lib.hid (Blk.new (w := w3) (b := w3.heap.size) #[.int .i64 g, .int .i64 g] 223 rfl)
            have L5 := Lib.hid (Nat.le_trans Z.out b5.size)
            have K5 := Lib.hid (K.out.keep b5)
            have B5 := Lib.hid (HB.out.trans (b5.mono HB.out.size))
            have Hlen := Lib.hid (show gs.length + [(⟨g, g⟩ : DFrmGap)].length ≤ 1073741824 by simp; omega)
            have Hlen4 := Lib.hid (show (gs ++ [(⟨g, g⟩ : DFrmGap)]).length ≤ 4 by simp; omega)
            clear b5
            go_wp2_with (at_builtin; go_loud (refine wpList_push (lo := w.heap.size + 1) (a := ⟨w3.heap.size, 0, none⟩) (c := 1) (ys := [⟨g, g⟩]) EFrmGap.framed EFrmGap.inside elemFrmGap _ rfl (.tmp 51) (.tmp 55) rfl rfl rfl O5.out N5.out L5.out (Els.one (f := []) ⟨rfl, rfl⟩ rfl) (Nw.nil _ _) (by simp) (fun i u hu => by rw [add_zero_blk]; exact KN.out.at hu) (by simp [Value.oneCell']) Hlen.out ?_))
            intro v' w6 f6 h1 h2 h3 _
            have bb : Below (w.heap.size + 1) (w3.alloc (.cells #[.int .i64 g, .int .i64 g] 223)) w6 := (Below.refl _ _).grown h3 L5.out (fun k hk' => (N5.out.2 k (O5.out.own_mem k (by simp [hk']))).1)
            have H1 := Lib.hid h1
            have H2' := Lib.hid h2
            have Z6 := Lib.hid (Nat.le_trans L5.out bb.size)
            have K6 := Lib.hid (K5.out.below bb (Nat.lt_succ_self _))
            have B6 := Lib.hid (B5.out.trans (bb.mono (Nat.le_succ _)))
            clear h1 h2 h3 bb
            go_wp2
            exact ⟨⟨j + 1, f6, by omega, by go_num, by rw [Hs.out, Hst.out]; exact H1.out, by rw [Hs.out, Hst.out]; exact Hlen4.out, H2'.out, Z6.out, K6.out, B6.out⟩, by simp [intOf]; omega⟩
    · have : j = n2 := by omega
      subst this
      have Hfin := Lib.hid (show (runsF ns).take 4 = runsF (ns.take j) by rw [List.take_of_length_le (l := ns) (by rw [Hnl.out]; omega)]; have h := Hl4.out; rw [List.take_of_length_le (l := ns) (by rw [Hnl.out]; omega)] at h; exact List.take_of_length_le h)
      have k1 := K.out.at (i := 1) rfl
      generalize runsF (ns.take j) = gs at *
      go_wp2
      refine bodyPost_ret (v := .tuple #[.int .i64 x.xCum, .slice QA gs.length qc]) (by simp [results, Try.results78, go_sem]) rfl ?_
      exact ⟨_, f, by rw [Hm.out], by rw [Hu.out, Hfin.out]; exact Ho.out, Hn.out.mono (Nat.le_succ _) (Nat.le_refl _), HB.out⟩
end Go.Proofs.Ythdjjgbjemaabaa
