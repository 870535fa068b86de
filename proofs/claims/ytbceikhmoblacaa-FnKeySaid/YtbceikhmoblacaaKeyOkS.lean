/-
  Keys: are they ok? The model's answer. (Written by wip/tools/genkeyok.py.)
-/
import Derived.Test.YtbceikhmoblacaaKeyOk
namespace Go.Proofs.Ytbceikhmoblacaa
open Go.ChangeShapes Go.WideShapes Go.ChangeAt Go.RowKit
set_option linter.unusedVariables false
set_option linter.unusedSimpArgs false

def noLap (o k : DKeyRow) : Bool := !(decide (k.xLow ≤ o.xHigh) && decide (o.xLow ≤ k.xHigh))
theorem keyGood_row (xs : List DKeyRow) (j : Nat) (k : DKeyRow) (h : rowOk k = false) : keyGood xs j k = false := by unfold keyGood; rw [h]; rfl
theorem keyGood_lap {xs : List DKeyRow} {j m : Nat} (hj : j < xs.length) (hm : m < j) (h : noLap (xs[m]'(by omega)) xs[j] = false) : keyGood xs j xs[j] = false := by
  unfold keyGood
  have : allI (fun _ o => behind o xs[j]) (xs.take j) = false := allI_bad (j := m) (by rw [List.length_take]; omega) (by
    rw [List.getElem_take]; unfold behind; unfold noLap at h; rw [h]; simp)
  rw [this]; simp
theorem keyGood_prev {xs : List DKeyRow} {j m : Nat} (hj : j < xs.length) (h0 : m + 1 = j) (h : xs[j].xCtx ≤ (xs[m]'(by omega)).xCtx) : keyGood xs j xs[j] = false := by
  unfold keyGood
  have : allI (fun _ o => behind o xs[j]) (xs.take j) = false := allI_bad (j := m) (by rw [List.length_take]; omega) (by
    rw [List.getElem_take]; unfold behind; rw [decide_eq_false (by omega)]; rfl)
  rw [this]; simp
theorem keyGood_of {xs : List DKeyRow} {j : Nat} (hj : j < xs.length) (hr : rowOk xs[j] = true) (hu : UpTo (keyGood xs) xs j) (hp : ∀ h : 0 < j, (xs[j - 1]'(by omega)).xCtx < xs[j].xCtx) (hl : UpTo (fun _ o => noLap o xs[j]) xs j) : keyGood xs j xs[j] = true := by
  unfold keyGood
  rw [hr, Bool.true_and]
  refine allI_good fun i hi => ?_
  rw [List.length_take] at hi
  have hij : i < j := by omega
  rw [List.getElem_take]
  have h1 : noLap xs[i] xs[j] = true := hl i (by omega) hij
  unfold noLap at h1
  unfold behind
  rw [h1, Bool.and_true, decide_eq_true_eq]
  have h2 := hp (by omega)
  by_cases he : i = j - 1
  · subst he; exact h2
  · have h3 := hu (j - 1) (by omega) (by omega)
    unfold keyGood at h3
    rw [Bool.and_eq_true] at h3
    have h4 := allI_at h3.2 (j := i) (by rw [List.length_take]; omega)
    rw [List.getElem_take] at h4
    unfold behind at h4
    rw [Bool.and_eq_true, decide_eq_true_eq] at h4
    omega
set_option maxRecDepth 100000 in
set_option maxHeartbeats 4000000 in
theorem specKeyOk_r (v : Value) (xs : List DKeyRow) (w : World) (hv : RdKeyRowS w v xs) : Calls Try.prog 28 #[v] w fun e w' => e = .returned (.bool (keyOkF xs)) ∧ Below w.heap.size w w' := by
  obtain ⟨A, c, rfl⟩ := RdS.slice hv
  have hc := RdS.cap hv
  have Hv := Lib.hid hv
  clear hv
  have hkf : keyOkF xs = (decide (xs.length ≤ 4) && allI (keyGood xs) xs) := rfl
  generalize hl : xs.length = n at *
  have Hl := Lib.hid hl
  have Hkf := Lib.hid hkf
  clear hl hkf
  generalize keyOkF xs = okf at *
  rcases Nat.lt_or_ge 4 n with hf | hf
  · go_enter Try.func28, Try.ntmps28
    go_wp2
    go_ret
    exact ⟨ret_bool (by rw [Hkf.out, decide_eq_false (Nat.not_le.2 hf)]; rfl), Below.refl _ _⟩
  go_enter Try.func28, Try.ntmps28
  go_wp2
  go_loopw [3] (fun i w1 => ∃ j : Nat, j ≤ n ∧ i = .int .i64 j ∧ Below w.heap.size w w1 ∧ UpTo (keyGood xs) xs j) (fun i _ => n - (intOf i).toNat)
  case atStart => exact ⟨0, by omega, rfl, Below.refl _ _, UpTo.zero⟩
  case round =>
    obtain ⟨j, hj, rfl, hb1, hu⟩ := hrel
    have Hu := Lib.hid hu
    have HB1 := Lib.hid hb1
    clear hu hb1
    by_cases hlt : j < n
    · obtain ⟨ad, cs, hk, rfl, hcl, hca, hE⟩ := RdS.at_ (Hv.out.below HB1.out) hlt
      subst hE
      have c0 := hca.c0
      have c1 := hca.ci 0 rfl
      have c2 := hca.ci 1 rfl
      have c3' := hca.ci 2 rfl
      clear hca hcl
      go_wp2_with fail
      generalize hw2 : World.alloc wr _ = w2
      have KS := Lib.hid (show Blk w2 wr.heap.size [.int .i64 xs[j].xCtx, .int .i64 xs[j].xLow, .int .i64 xs[j].xHigh, .int .i64 xs[j].xMode] by rw [← hw2]; exact Blk.new _ _ rfl)
      have HB2 := Lib.hid (show Below w.heap.size w w2 by rw [← hw2]; exact HB1.out.alloc HB1.out.size _)
      clear hw2 c0 c1 c2 c3'
      generalize wr.heap.size = kb at *
      rcases h1 : inB xs[j].xCtx 1 9 with _ | _
      · refine wp_region_steady (fun y => Blk y kb [.int .i64 xs[j].xCtx, .int .i64 xs[j].xLow, .int .i64 xs[j].xHigh, .int .i64 xs[j].xMode] ∧ Below w2.heap.size w2 y) (by kernel_rfl) (by kernel_rfl) (⟨KS.out.drew, (Below.refl _ _).drew⟩) ?_
        repeat
          (first
            | (refine steady_no (by rfl) ?_)
            | (refine' steady_val (v := _) (by rfl) ?_ ?_
               rotate_left
               focus (intro y hS; have a0 := hS.1.at (i := 0) rfl; have a1 := hS.1.at (i := 1) rfl; have a2 := hS.1.at (i := 2) rfl; have a3 := hS.1.at (i := 3) rfl; clear hS; go_simp; first | done | with_reducible rfl))
            | (refine' steady_call (f := _) (args := _) _ (by rfl) ?_ ?_ ?_
               rotate_left 3
               focus (intro y hS; have a0 := hS.1.at (i := 0) rfl; have a1 := hS.1.at (i := 1) rfl; have a2 := hS.1.at (i := 2) rfl; have a3 := hS.1.at (i := 3) rfl; clear hS; go_simp; first | done | with_reducible rfl | (refine ⟨?_, ?_⟩ <;> with_reducible rfl))
               focus (intro y hS; first
                | (refine (l1In_any _ _ _ y).mono ?_; rintro e y' ⟨rfl, rfl⟩; exact ⟨by first | rw [h1], hS⟩)))
           simp only [Act.put, List.setIfInBounds_toArray, List.set_cons_zero, List.set_cons_succ])
        refine steady_nil ?_
        intro w3 hS3
        have Hfin := Lib.hid (belowOn HB2.out HB2.out.size hS3.2)
        clear hS3
        go_wp2
        go_ret
        exact ⟨ret_bool (by have hb := allI_bad (p := keyGood xs) hk (keyGood_row xs j _ (by simp [rowOk, h1])); rw [Hkf.out, hb]; simp), Hfin.out⟩
      by_cases h2 : xs[j].xLow < 0
      · refine wp_region_steady (fun y => Blk y kb [.int .i64 xs[j].xCtx, .int .i64 xs[j].xLow, .int .i64 xs[j].xHigh, .int .i64 xs[j].xMode] ∧ Below w2.heap.size w2 y) (by kernel_rfl) (by kernel_rfl) (⟨KS.out.drew, (Below.refl _ _).drew⟩) ?_
        repeat
          (first
            | (refine steady_no (by rfl) ?_)
            | (refine' steady_val (v := _) (by rfl) ?_ ?_
               rotate_left
               focus (intro y hS; have a0 := hS.1.at (i := 0) rfl; have a1 := hS.1.at (i := 1) rfl; have a2 := hS.1.at (i := 2) rfl; have a3 := hS.1.at (i := 3) rfl; clear hS; go_simp; first | done | with_reducible rfl))
            | (refine' steady_call (f := _) (args := _) _ (by rfl) ?_ ?_ ?_
               rotate_left 3
               focus (intro y hS; have a0 := hS.1.at (i := 0) rfl; have a1 := hS.1.at (i := 1) rfl; have a2 := hS.1.at (i := 2) rfl; have a3 := hS.1.at (i := 3) rfl; clear hS; go_simp; first | done | with_reducible rfl | (refine ⟨?_, ?_⟩ <;> with_reducible rfl))
               focus (intro y hS; first
                | (refine (l1In_any _ _ _ y).mono ?_; rintro e y' ⟨rfl, rfl⟩; exact ⟨by first | rw [h1], hS⟩)))
           simp only [Act.put, List.setIfInBounds_toArray, List.set_cons_zero, List.set_cons_succ])
        refine steady_nil ?_
        intro w3 hS3
        have Hfin := Lib.hid (belowOn HB2.out HB2.out.size hS3.2)
        clear hS3
        go_wp2
        go_ret
        exact ⟨ret_bool (by have hb := allI_bad (p := keyGood xs) hk (keyGood_row xs j _ (by simp [rowOk, Int.not_le.2 h2])); rw [Hkf.out, hb]; simp), Hfin.out⟩
      by_cases h3 : xs[j].xHigh < xs[j].xLow
      · refine wp_region_steady (fun y => Blk y kb [.int .i64 xs[j].xCtx, .int .i64 xs[j].xLow, .int .i64 xs[j].xHigh, .int .i64 xs[j].xMode] ∧ Below w2.heap.size w2 y) (by kernel_rfl) (by kernel_rfl) (⟨KS.out.drew, (Below.refl _ _).drew⟩) ?_
        repeat
          (first
            | (refine steady_no (by rfl) ?_)
            | (refine' steady_val (v := _) (by rfl) ?_ ?_
               rotate_left
               focus (intro y hS; have a0 := hS.1.at (i := 0) rfl; have a1 := hS.1.at (i := 1) rfl; have a2 := hS.1.at (i := 2) rfl; have a3 := hS.1.at (i := 3) rfl; clear hS; go_simp; first | done | with_reducible rfl))
            | (refine' steady_call (f := _) (args := _) _ (by rfl) ?_ ?_ ?_
               rotate_left 3
               focus (intro y hS; have a0 := hS.1.at (i := 0) rfl; have a1 := hS.1.at (i := 1) rfl; have a2 := hS.1.at (i := 2) rfl; have a3 := hS.1.at (i := 3) rfl; clear hS; go_simp; first | done | with_reducible rfl | (refine ⟨?_, ?_⟩ <;> with_reducible rfl))
               focus (intro y hS; first
                | (refine (l1In_any _ _ _ y).mono ?_; rintro e y' ⟨rfl, rfl⟩; exact ⟨by first | rw [h1], hS⟩)))
           simp only [Act.put, List.setIfInBounds_toArray, List.set_cons_zero, List.set_cons_succ])
        refine steady_nil ?_
        intro w3 hS3
        have Hfin := Lib.hid (belowOn HB2.out HB2.out.size hS3.2)
        clear hS3
        go_wp2
        go_ret
        exact ⟨ret_bool (by have hb := allI_bad (p := keyGood xs) hk (keyGood_row xs j _ (by simp [rowOk, Int.not_le.2 h3])); rw [Hkf.out, hb]; simp), Hfin.out⟩
      by_cases h4 : 999 < xs[j].xHigh
      · refine wp_region_steady (fun y => Blk y kb [.int .i64 xs[j].xCtx, .int .i64 xs[j].xLow, .int .i64 xs[j].xHigh, .int .i64 xs[j].xMode] ∧ Below w2.heap.size w2 y) (by kernel_rfl) (by kernel_rfl) (⟨KS.out.drew, (Below.refl _ _).drew⟩) ?_
        repeat
          (first
            | (refine steady_no (by rfl) ?_)
            | (refine' steady_val (v := _) (by rfl) ?_ ?_
               rotate_left
               focus (intro y hS; have a0 := hS.1.at (i := 0) rfl; have a1 := hS.1.at (i := 1) rfl; have a2 := hS.1.at (i := 2) rfl; have a3 := hS.1.at (i := 3) rfl; clear hS; go_simp; first | done | with_reducible rfl))
            | (refine' steady_call (f := _) (args := _) _ (by rfl) ?_ ?_ ?_
               rotate_left 3
               focus (intro y hS; have a0 := hS.1.at (i := 0) rfl; have a1 := hS.1.at (i := 1) rfl; have a2 := hS.1.at (i := 2) rfl; have a3 := hS.1.at (i := 3) rfl; clear hS; go_simp; first | done | with_reducible rfl | (refine ⟨?_, ?_⟩ <;> with_reducible rfl))
               focus (intro y hS; first
                | (refine (l1In_any _ _ _ y).mono ?_; rintro e y' ⟨rfl, rfl⟩; exact ⟨by first | rw [h1], hS⟩)))
           simp only [Act.put, List.setIfInBounds_toArray, List.set_cons_zero, List.set_cons_succ])
        refine steady_nil ?_
        intro w3 hS3
        have Hfin := Lib.hid (belowOn HB2.out HB2.out.size hS3.2)
        clear hS3
        go_wp2
        go_ret
        exact ⟨ret_bool (by have hb := allI_bad (p := keyGood xs) hk (keyGood_row xs j _ (by simp [rowOk, Int.not_le.2 h4])); rw [Hkf.out, hb]; simp), Hfin.out⟩
      rcases h5 : inB xs[j].xMode 1 3 with _ | _
      · refine wp_region_steady (fun y => Blk y kb [.int .i64 xs[j].xCtx, .int .i64 xs[j].xLow, .int .i64 xs[j].xHigh, .int .i64 xs[j].xMode] ∧ Below w2.heap.size w2 y) (by kernel_rfl) (by kernel_rfl) (⟨KS.out.drew, (Below.refl _ _).drew⟩) ?_
        repeat
          (first
            | (refine steady_no (by rfl) ?_)
            | (refine' steady_val (v := _) (by rfl) ?_ ?_
               rotate_left
               focus (intro y hS; have a0 := hS.1.at (i := 0) rfl; have a1 := hS.1.at (i := 1) rfl; have a2 := hS.1.at (i := 2) rfl; have a3 := hS.1.at (i := 3) rfl; clear hS; go_simp; first | done | with_reducible rfl))
            | (refine' steady_call (f := _) (args := _) _ (by rfl) ?_ ?_ ?_
               rotate_left 3
               focus (intro y hS; have a0 := hS.1.at (i := 0) rfl; have a1 := hS.1.at (i := 1) rfl; have a2 := hS.1.at (i := 2) rfl; have a3 := hS.1.at (i := 3) rfl; clear hS; go_simp; first | done | with_reducible rfl | (refine ⟨?_, ?_⟩ <;> with_reducible rfl))
               focus (intro y hS; first
                | (refine (l1In_any _ _ _ y).mono ?_; rintro e y' ⟨rfl, rfl⟩; exact ⟨by first | rw [h1] | rw [h5], hS⟩)))
           simp only [Act.put, List.setIfInBounds_toArray, List.set_cons_zero, List.set_cons_succ])
        refine steady_nil ?_
        intro w3 hS3
        have Hfin := Lib.hid (belowOn HB2.out HB2.out.size hS3.2)
        clear hS3
        go_wp2
        go_ret
        exact ⟨ret_bool (by have hb := allI_bad (p := keyGood xs) hk (keyGood_row xs j _ (by simp [rowOk, h5])); rw [Hkf.out, hb]; simp), Hfin.out⟩
      have Hro := Lib.hid (show rowOk xs[j] = true by simp [rowOk, h1, h5]; omega)
      rcases Nat.eq_zero_or_pos j with h0 | h0
      · have h0' : ((0 : Int) < (j : Int)) = False := by simp [h0]
        have h0n : (0 < j) = False := by simp [h0]
        have Hprev := Lib.hid (show ∀ h : 0 < j, (xs[j - 1]'(Nat.lt_of_le_of_lt (Nat.sub_le _ _) hk)).xCtx < xs[j].xCtx from fun h => absurd h (by omega))
        have Hj0 := Lib.hid h0
        clear h0
        refine wp_region_steady (fun y => Blk y kb [.int .i64 xs[j].xCtx, .int .i64 xs[j].xLow, .int .i64 xs[j].xHigh, .int .i64 xs[j].xMode] ∧ Below w2.heap.size w2 y) (by kernel_rfl) (by kernel_rfl) (⟨KS.out.drew, (Below.refl _ _).drew⟩) ?_
        repeat
          (first
            | (refine steady_no (by rfl) ?_)
            | (refine' steady_val (v := _) (by rfl) ?_ ?_
               rotate_left
               focus (intro y hS; have a0 := hS.1.at (i := 0) rfl; have a1 := hS.1.at (i := 1) rfl; have a2 := hS.1.at (i := 2) rfl; have a3 := hS.1.at (i := 3) rfl; clear hS; go_simp; first | done | with_reducible rfl))
            | (refine' steady_call (f := _) (args := _) _ (by rfl) ?_ ?_ ?_
               rotate_left 3
               focus (intro y hS; have a0 := hS.1.at (i := 0) rfl; have a1 := hS.1.at (i := 1) rfl; have a2 := hS.1.at (i := 2) rfl; have a3 := hS.1.at (i := 3) rfl; clear hS; go_simp; first | done | with_reducible rfl | (refine ⟨?_, ?_⟩ <;> with_reducible rfl))
               focus (intro y hS; first
                | (refine (l1In_any _ _ _ y).mono ?_; rintro e y' ⟨rfl, rfl⟩; exact ⟨by first | rw [h1] | rw [h5], hS⟩)))
           simp only [Act.put, List.setIfInBounds_toArray, List.set_cons_zero, List.set_cons_succ])
        refine steady_nil ?_
        intro w3 hS3
        have KS := Lib.hid hS3.1
        have HB3 := Lib.hid (belowOn HB2.out HB2.out.size hS3.2)
        clear hS3
        go_wp2
        go_loopw [5] (fun i w4 => ∃ m : Nat, m ≤ j ∧ i = .int .i64 m ∧ Blk w4 kb [.int .i64 xs[j].xCtx, .int .i64 xs[j].xLow, .int .i64 xs[j].xHigh, .int .i64 xs[j].xMode] ∧ Below w.heap.size w w4 ∧ UpTo (fun _ o => noLap o xs[j]) xs m) (fun i _ => j - (intOf i).toNat)
        case atStart => exact ⟨0, by omega, rfl, KS.out, HB3.out, UpTo.zero⟩
        case round =>
          clear KS HB3
          obtain ⟨m, hm, rfl, hk4, hb4, hu4⟩ := hrel
          have HU4 := Lib.hid hu4
          have KS := Lib.hid hk4
          have HB4 := Lib.hid hb4
          clear hk4 hb4 hu4
          by_cases hml : m < j
          · obtain ⟨ad', cs', hkm, hae, hcl, hca, hE⟩ := RdS.at_ (Hv.out.below HB4.out) (show m < n by omega)
            injection hae with hae
            subst hae
            subst hE
            have HP := Lib.hid hca
            clear hca hcl
            have hmn : (m : Int) < n := by omega
            go_wp2_with fail
            have Hlap := Lib.hid (show noLap xs[m] xs[j] = !(decide (xs[j].xLow ≤ xs[m].xHigh) && decide (xs[m].xLow ≤ xs[j].xHigh)) from rfl)
            by_cases g1 : xs[j].xLow ≤ xs[m].xHigh
            · by_cases g2 : xs[m].xLow ≤ xs[j].xHigh
              · refine wp_region_steady (fun y => Blk y kb [.int .i64 xs[j].xCtx, .int .i64 xs[j].xLow, .int .i64 xs[j].xHigh, .int .i64 xs[j].xMode] ∧ CellsAt y (ad.add (m * 4)) [.int .i64 xs[m].xCtx, .int .i64 xs[m].xLow, .int .i64 xs[m].xHigh, .int .i64 xs[m].xMode] ∧ Below wr.heap.size wr y) (by kernel_rfl) (by kernel_rfl) (⟨KS.out.drew, HP.out.below (Below.refl _ _).drew, (Below.refl _ _).drew⟩) ?_
                repeat
                  (first
                    | (refine steady_no (by rfl) ?_)
                    | (refine' steady_val (v := _) (by rfl) ?_ ?_
                       rotate_left
                       focus (intro y hS; have a0 := hS.1.at (i := 0) rfl; have a1 := hS.1.at (i := 1) rfl; have a2 := hS.1.at (i := 2) rfl; have a3 := hS.1.at (i := 3) rfl; have c0 := hS.2.1.c0; have c1 := hS.2.1.ci 0 rfl; have c2 := hS.2.1.ci 1 rfl; have c3 := hS.2.1.ci 2 rfl; clear hS; go_simp; first | done | with_reducible rfl))
                   simp only [Act.put, List.setIfInBounds_toArray, List.set_cons_zero, List.set_cons_succ])
                refine steady_nil ?_
                intro w5 hS5
                have K5 := Lib.hid hS5.1
                have Hfin := Lib.hid (belowOn HB4.out HB4.out.size hS5.2.2)
                clear hS5
                go_wp2
                go_ret
                exact ⟨ret_bool (by have hb := allI_bad (p := keyGood xs) hk (keyGood_lap hk hml (Hlap.out.trans (by simp [g1, g2]))); rw [Hkf.out, hb]; simp), Hfin.out⟩
              · refine wp_region_steady (fun y => Blk y kb [.int .i64 xs[j].xCtx, .int .i64 xs[j].xLow, .int .i64 xs[j].xHigh, .int .i64 xs[j].xMode] ∧ CellsAt y (ad.add (m * 4)) [.int .i64 xs[m].xCtx, .int .i64 xs[m].xLow, .int .i64 xs[m].xHigh, .int .i64 xs[m].xMode] ∧ Below wr.heap.size wr y) (by kernel_rfl) (by kernel_rfl) (⟨KS.out.drew, HP.out.below (Below.refl _ _).drew, (Below.refl _ _).drew⟩) ?_
                repeat
                  (first
                    | (refine steady_no (by rfl) ?_)
                    | (refine' steady_val (v := _) (by rfl) ?_ ?_
                       rotate_left
                       focus (intro y hS; have a0 := hS.1.at (i := 0) rfl; have a1 := hS.1.at (i := 1) rfl; have a2 := hS.1.at (i := 2) rfl; have a3 := hS.1.at (i := 3) rfl; have c0 := hS.2.1.c0; have c1 := hS.2.1.ci 0 rfl; have c2 := hS.2.1.ci 1 rfl; have c3 := hS.2.1.ci 2 rfl; clear hS; go_simp; first | done | with_reducible rfl))
                   simp only [Act.put, List.setIfInBounds_toArray, List.set_cons_zero, List.set_cons_succ])
                refine steady_nil ?_
                intro w5 hS5
                have K5 := Lib.hid hS5.1
                have Hfin := Lib.hid (belowOn HB4.out HB4.out.size hS5.2.2)
                clear hS5
                go_wp2
                exact ⟨⟨m + 1, by omega, by go_num, K5.out, Hfin.out, HU4.out.succ hkm (Hlap.out.trans (by simp [g1, g2]))⟩, by simp [intOf]; omega⟩
            · refine wp_region_steady (fun y => Blk y kb [.int .i64 xs[j].xCtx, .int .i64 xs[j].xLow, .int .i64 xs[j].xHigh, .int .i64 xs[j].xMode] ∧ CellsAt y (ad.add (m * 4)) [.int .i64 xs[m].xCtx, .int .i64 xs[m].xLow, .int .i64 xs[m].xHigh, .int .i64 xs[m].xMode] ∧ Below wr.heap.size wr y) (by kernel_rfl) (by kernel_rfl) (⟨KS.out.drew, HP.out.below (Below.refl _ _).drew, (Below.refl _ _).drew⟩) ?_
              repeat
                (first
                  | (refine steady_no (by rfl) ?_)
                  | (refine' steady_val (v := _) (by rfl) ?_ ?_
                     rotate_left
                     focus (intro y hS; have a0 := hS.1.at (i := 0) rfl; have a1 := hS.1.at (i := 1) rfl; have a2 := hS.1.at (i := 2) rfl; have a3 := hS.1.at (i := 3) rfl; have c0 := hS.2.1.c0; have c1 := hS.2.1.ci 0 rfl; have c2 := hS.2.1.ci 1 rfl; have c3 := hS.2.1.ci 2 rfl; clear hS; go_simp; first | done | with_reducible rfl))
                 simp only [Act.put, List.setIfInBounds_toArray, List.set_cons_zero, List.set_cons_succ])
              refine steady_nil ?_
              intro w5 hS5
              have K5 := Lib.hid hS5.1
              have Hfin := Lib.hid (belowOn HB4.out HB4.out.size hS5.2.2)
              clear hS5
              go_wp2
              exact ⟨⟨m + 1, by omega, by go_num, K5.out, Hfin.out, HU4.out.succ hkm (Hlap.out.trans (by simp [g1]))⟩, by simp [intOf]; omega⟩
          · have : m = j := by omega
            subst this
            go_wp2
            exact ⟨⟨m + 1, by omega, by go_num, HB4.out, Hu.out.succ hk (keyGood_of hk Hro.out Hu.out Hprev.out HU4.out)⟩, by simp [intOf]; omega⟩
      · have hj0 : (0 : Int) < (j : Int) := by omega
        obtain ⟨m, hm⟩ : ∃ m, m + 1 = j := ⟨j - 1, by omega⟩
        have hsub : IntKind.i64.wrap ((j : Int) - 1) = (m : Int) := by rw [IntWalk.i64_in _ (by omega)]; omega
        have hmn : (m : Int) < n := by omega
        obtain ⟨ad', cs', hkm, hae, hcl, hca, hE⟩ := RdS.at_ (Hv.out.below HB2.out) (show m < n by omega)
        injection hae with hae
        subst hae
        subst hE
        have HP := Lib.hid hca
        have Hm := Lib.hid hm
        clear hca hcl hm
        by_cases h6 : xs[j].xCtx ≤ xs[m].xCtx
        · refine wp_region_steady (fun y => Blk y kb [.int .i64 xs[j].xCtx, .int .i64 xs[j].xLow, .int .i64 xs[j].xHigh, .int .i64 xs[j].xMode] ∧ CellsAt y (ad.add (m * 4)) [.int .i64 xs[m].xCtx, .int .i64 xs[m].xLow, .int .i64 xs[m].xHigh, .int .i64 xs[m].xMode] ∧ Below w2.heap.size w2 y) (by kernel_rfl) (by kernel_rfl) (⟨KS.out.drew, HP.out.below (Below.refl _ _).drew, (Below.refl _ _).drew⟩) ?_
          repeat
            (first
              | (refine steady_no (by rfl) ?_)
              | (refine' steady_val (v := _) (by rfl) ?_ ?_
                 rotate_left
                 focus (intro y hS; have a0 := hS.1.at (i := 0) rfl; have a1 := hS.1.at (i := 1) rfl; have a2 := hS.1.at (i := 2) rfl; have a3 := hS.1.at (i := 3) rfl; have c0 := hS.2.1.c0; have c1 := hS.2.1.ci 0 rfl; have c2 := hS.2.1.ci 1 rfl; have c3 := hS.2.1.ci 2 rfl; clear hS; go_simp; first | done | with_reducible rfl))
              | (refine' steady_call (f := _) (args := _) _ (by rfl) ?_ ?_ ?_
                 rotate_left 3
                 focus (intro y hS; have a0 := hS.1.at (i := 0) rfl; have a1 := hS.1.at (i := 1) rfl; have a2 := hS.1.at (i := 2) rfl; have a3 := hS.1.at (i := 3) rfl; have c0 := hS.2.1.c0; have c1 := hS.2.1.ci 0 rfl; have c2 := hS.2.1.ci 1 rfl; have c3 := hS.2.1.ci 2 rfl; clear hS; go_simp; first | done | with_reducible rfl | (refine ⟨?_, ?_⟩ <;> with_reducible rfl))
                 focus (intro y hS; first
                  | (refine (l1In_any _ _ _ y).mono ?_; rintro e y' ⟨rfl, rfl⟩; exact ⟨by first | rw [h1] | rw [h5], hS⟩)))
             simp only [Act.put, List.setIfInBounds_toArray, List.set_cons_zero, List.set_cons_succ])
          refine steady_nil ?_
          intro w3 hS3
          have Hfin := Lib.hid (belowOn HB2.out HB2.out.size hS3.2.2)
          clear hS3
          go_wp2
          go_ret
          exact ⟨ret_bool (by have hb := allI_bad (p := keyGood xs) hk (keyGood_prev hk Hm.out h6); rw [Hkf.out, hb]; simp), Hfin.out⟩
        · refine wp_region_steady (fun y => Blk y kb [.int .i64 xs[j].xCtx, .int .i64 xs[j].xLow, .int .i64 xs[j].xHigh, .int .i64 xs[j].xMode] ∧ CellsAt y (ad.add (m * 4)) [.int .i64 xs[m].xCtx, .int .i64 xs[m].xLow, .int .i64 xs[m].xHigh, .int .i64 xs[m].xMode] ∧ Below w2.heap.size w2 y) (by kernel_rfl) (by kernel_rfl) (⟨KS.out.drew, HP.out.below (Below.refl _ _).drew, (Below.refl _ _).drew⟩) ?_
          repeat
            (first
              | (refine steady_no (by rfl) ?_)
              | (refine' steady_val (v := _) (by rfl) ?_ ?_
                 rotate_left
                 focus (intro y hS; have a0 := hS.1.at (i := 0) rfl; have a1 := hS.1.at (i := 1) rfl; have a2 := hS.1.at (i := 2) rfl; have a3 := hS.1.at (i := 3) rfl; have c0 := hS.2.1.c0; have c1 := hS.2.1.ci 0 rfl; have c2 := hS.2.1.ci 1 rfl; have c3 := hS.2.1.ci 2 rfl; clear hS; go_simp; first | done | with_reducible rfl))
              | (refine' steady_call (f := _) (args := _) _ (by rfl) ?_ ?_ ?_
                 rotate_left 3
                 focus (intro y hS; have a0 := hS.1.at (i := 0) rfl; have a1 := hS.1.at (i := 1) rfl; have a2 := hS.1.at (i := 2) rfl; have a3 := hS.1.at (i := 3) rfl; have c0 := hS.2.1.c0; have c1 := hS.2.1.ci 0 rfl; have c2 := hS.2.1.ci 1 rfl; have c3 := hS.2.1.ci 2 rfl; clear hS; go_simp; first | done | with_reducible rfl | (refine ⟨?_, ?_⟩ <;> with_reducible rfl))
                 focus (intro y hS; first
                  | (refine (l1In_any _ _ _ y).mono ?_; rintro e y' ⟨rfl, rfl⟩; exact ⟨by first | rw [h1] | rw [h5], hS⟩)))
             simp only [Act.put, List.setIfInBounds_toArray, List.set_cons_zero, List.set_cons_succ])
          refine steady_nil ?_
          have Hprev := Lib.hid (show ∀ h : 0 < j, (xs[j - 1]'(Nat.lt_of_le_of_lt (Nat.sub_le _ _) hk)).xCtx < xs[j].xCtx from fun h => by
            have hjm : j - 1 = m := by have := Hm.out; omega
            simp only [hjm]
            exact Int.not_le.1 h6)
          clear hsub hmn HP
          intro w3 hS3
          have KS := Lib.hid hS3.1
          have HB3 := Lib.hid (belowOn HB2.out HB2.out.size hS3.2.2)
          clear hS3
          go_wp2
          go_loopw [5] (fun i w4 => ∃ m : Nat, m ≤ j ∧ i = .int .i64 m ∧ Blk w4 kb [.int .i64 xs[j].xCtx, .int .i64 xs[j].xLow, .int .i64 xs[j].xHigh, .int .i64 xs[j].xMode] ∧ Below w.heap.size w w4 ∧ UpTo (fun _ o => noLap o xs[j]) xs m) (fun i _ => j - (intOf i).toNat)
          case atStart => exact ⟨0, by omega, rfl, KS.out, HB3.out, UpTo.zero⟩
          case round =>
            clear KS HB3
            obtain ⟨m, hm, rfl, hk4, hb4, hu4⟩ := hrel
            have HU4 := Lib.hid hu4
            have KS := Lib.hid hk4
            have HB4 := Lib.hid hb4
            clear hk4 hb4 hu4
            by_cases hml : m < j
            · obtain ⟨ad', cs', hkm, hae, hcl, hca, hE⟩ := RdS.at_ (Hv.out.below HB4.out) (show m < n by omega)
              injection hae with hae
              subst hae
              subst hE
              have HP := Lib.hid hca
              clear hca hcl
              have hmn : (m : Int) < n := by omega
              go_wp2_with fail
              have Hlap := Lib.hid (show noLap xs[m] xs[j] = !(decide (xs[j].xLow ≤ xs[m].xHigh) && decide (xs[m].xLow ≤ xs[j].xHigh)) from rfl)
              by_cases g1 : xs[j].xLow ≤ xs[m].xHigh
              · by_cases g2 : xs[m].xLow ≤ xs[j].xHigh
                · refine wp_region_steady (fun y => Blk y kb [.int .i64 xs[j].xCtx, .int .i64 xs[j].xLow, .int .i64 xs[j].xHigh, .int .i64 xs[j].xMode] ∧ CellsAt y (ad.add (m * 4)) [.int .i64 xs[m].xCtx, .int .i64 xs[m].xLow, .int .i64 xs[m].xHigh, .int .i64 xs[m].xMode] ∧ Below wr.heap.size wr y) (by kernel_rfl) (by kernel_rfl) (⟨KS.out.drew, HP.out.below (Below.refl _ _).drew, (Below.refl _ _).drew⟩) ?_
                  repeat
                    (first
                      | (refine steady_no (by rfl) ?_)
                      | (refine' steady_val (v := _) (by rfl) ?_ ?_
                         rotate_left
                         focus (intro y hS; have a0 := hS.1.at (i := 0) rfl; have a1 := hS.1.at (i := 1) rfl; have a2 := hS.1.at (i := 2) rfl; have a3 := hS.1.at (i := 3) rfl; have c0 := hS.2.1.c0; have c1 := hS.2.1.ci 0 rfl; have c2 := hS.2.1.ci 1 rfl; have c3 := hS.2.1.ci 2 rfl; clear hS; go_simp; first | done | with_reducible rfl))
                     simp only [Act.put, List.setIfInBounds_toArray, List.set_cons_zero, List.set_cons_succ])
                  refine steady_nil ?_
                  intro w5 hS5
                  have K5 := Lib.hid hS5.1
                  have Hfin := Lib.hid (belowOn HB4.out HB4.out.size hS5.2.2)
                  clear hS5
                  go_wp2
                  go_ret
                  exact ⟨ret_bool (by have hb := allI_bad (p := keyGood xs) hk (keyGood_lap hk hml (Hlap.out.trans (by simp [g1, g2]))); rw [Hkf.out, hb]; simp), Hfin.out⟩
                · refine wp_region_steady (fun y => Blk y kb [.int .i64 xs[j].xCtx, .int .i64 xs[j].xLow, .int .i64 xs[j].xHigh, .int .i64 xs[j].xMode] ∧ CellsAt y (ad.add (m * 4)) [.int .i64 xs[m].xCtx, .int .i64 xs[m].xLow, .int .i64 xs[m].xHigh, .int .i64 xs[m].xMode] ∧ Below wr.heap.size wr y) (by kernel_rfl) (by kernel_rfl) (⟨KS.out.drew, HP.out.below (Below.refl _ _).drew, (Below.refl _ _).drew⟩) ?_
                  repeat
                    (first
                      | (refine steady_no (by rfl) ?_)
                      | (refine' steady_val (v := _) (by rfl) ?_ ?_
                         rotate_left
                         focus (intro y hS; have a0 := hS.1.at (i := 0) rfl; have a1 := hS.1.at (i := 1) rfl; have a2 := hS.1.at (i := 2) rfl; have a3 := hS.1.at (i := 3) rfl; have c0 := hS.2.1.c0; have c1 := hS.2.1.ci 0 rfl; have c2 := hS.2.1.ci 1 rfl; have c3 := hS.2.1.ci 2 rfl; clear hS; go_simp; first | done | with_reducible rfl))
                     simp only [Act.put, List.setIfInBounds_toArray, List.set_cons_zero, List.set_cons_succ])
                  refine steady_nil ?_
                  intro w5 hS5
                  have K5 := Lib.hid hS5.1
                  have Hfin := Lib.hid (belowOn HB4.out HB4.out.size hS5.2.2)
                  clear hS5
                  go_wp2
                  exact ⟨⟨m + 1, by omega, by go_num, K5.out, Hfin.out, HU4.out.succ hkm (Hlap.out.trans (by simp [g1, g2]))⟩, by simp [intOf]; omega⟩
              · refine wp_region_steady (fun y => Blk y kb [.int .i64 xs[j].xCtx, .int .i64 xs[j].xLow, .int .i64 xs[j].xHigh, .int .i64 xs[j].xMode] ∧ CellsAt y (ad.add (m * 4)) [.int .i64 xs[m].xCtx, .int .i64 xs[m].xLow, .int .i64 xs[m].xHigh, .int .i64 xs[m].xMode] ∧ Below wr.heap.size wr y) (by kernel_rfl) (by kernel_rfl) (⟨KS.out.drew, HP.out.below (Below.refl _ _).drew, (Below.refl _ _).drew⟩) ?_
                repeat
                  (first
                    | (refine steady_no (by rfl) ?_)
                    | (refine' steady_val (v := _) (by rfl) ?_ ?_
                       rotate_left
                       focus (intro y hS; have a0 := hS.1.at (i := 0) rfl; have a1 := hS.1.at (i := 1) rfl; have a2 := hS.1.at (i := 2) rfl; have a3 := hS.1.at (i := 3) rfl; have c0 := hS.2.1.c0; have c1 := hS.2.1.ci 0 rfl; have c2 := hS.2.1.ci 1 rfl; have c3 := hS.2.1.ci 2 rfl; clear hS; go_simp; first | done | with_reducible rfl))
                   simp only [Act.put, List.setIfInBounds_toArray, List.set_cons_zero, List.set_cons_succ])
                refine steady_nil ?_
                intro w5 hS5
                have K5 := Lib.hid hS5.1
                have Hfin := Lib.hid (belowOn HB4.out HB4.out.size hS5.2.2)
                clear hS5
                go_wp2
                exact ⟨⟨m + 1, by omega, by go_num, K5.out, Hfin.out, HU4.out.succ hkm (Hlap.out.trans (by simp [g1]))⟩, by simp [intOf]; omega⟩
            · have : m = j := by omega
              subst this
              go_wp2
              exact ⟨⟨m + 1, by omega, by go_num, HB4.out, Hu.out.succ hk (keyGood_of hk Hro.out Hu.out Hprev.out HU4.out)⟩, by simp [intOf]; omega⟩
    · go_wp2
      go_ret
      exact ⟨ret_bool (by have hb := Hu.out.done (by rw [Hl.out]; omega); rw [Hkf.out, hb, decide_eq_true hf]; rfl), HB1.out⟩
end Go.Proofs.Ytbceikhmoblacaa
