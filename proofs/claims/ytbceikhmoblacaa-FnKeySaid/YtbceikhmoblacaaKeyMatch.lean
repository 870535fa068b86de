/-
  Keys: which one has a destination? The program's answer and the model's. (Written by wip/tools/genkeymatch.py.)
-/
import Derived.Test.YtbceikhmoblacaaKeyOkS
namespace Go.Proofs.Ytbceikhmoblacaa
open Go.ChangeShapes Go.WideShapes Go.ChangeAt Go.RowKit
set_option linter.unusedVariables false
set_option linter.unusedSimpArgs false

theorem keyAt_hit {d : Int} : ∀ (xs : List DKeyRow) (i j : Nat) (hj : j < xs.length), UpTo (fun _ k => !inB d k.xLow k.xHigh) xs j → inB d xs[j].xLow xs[j].xHigh = true → keyAt d i xs = ((i + j : Nat) : Int)
  | k :: ks, i, 0, _, _, h => by
    have h' : inB d k.xLow k.xHigh = true := h
    simp [keyAt, h']
  | k :: ks, i, j + 1, hj, hu, h => by
    have h0 : (!inB d k.xLow k.xHigh) = true := hu 0 (by simp) (by omega)
    have h1 : inB d k.xLow k.xHigh = false := by simpa using h0
    have h2 := keyAt_hit ks (i + 1) j (by simpa using hj) (fun m hm hmj => hu (m + 1) (by simpa using hm) (by omega)) h
    simp only [keyAt, h1]
    rw [if_neg (by simp), h2]
    congr 1
    omega
theorem keyAt_none {d : Int} : ∀ (xs : List DKeyRow) (i : Nat), UpTo (fun _ k => !inB d k.xLow k.xHigh) xs xs.length → keyAt d i xs = -1
  | [], _, _ => rfl
  | k :: ks, i, hu => by
    have h0 : (!inB d k.xLow k.xHigh) = true := hu 0 (by simp) (by simp)
    have h1 : inB d k.xLow k.xHigh = false := by simpa using h0
    simp only [keyAt, h1]
    rw [if_neg (by simp)]
    exact keyAt_none ks (i + 1) (fun m hm hmj => hu (m + 1) (by simpa using hm) (by simpa using hm))
set_option maxRecDepth 100000 in
set_option maxHeartbeats 2000000 in
theorem specKeyMatch_r (v : Value) (xs : List DKeyRow) (d : Int) (w : World) (hv : RdKeyRowS w v xs) : Calls Try.prog 26 #[v, .int .i64 d] w fun e w' => e = .returned (.int .i64 (keyMatchF xs d)) ∧ Below w.heap.size w w' := by
  have Hv := Lib.hid hv
  have Hok := Lib.hid (specKeyOk_r v xs w hv)
  obtain ⟨A, c, rfl⟩ := RdS.slice hv
  have hc := RdS.cap hv
  clear hv
  have hkm : keyMatchF xs d = if keyOkF xs = true then keyAt d 0 xs else -1 := rfl
  generalize hl : xs.length = n at *
  have Hl := Lib.hid hl
  have Hkm := Lib.hid hkm
  clear hl hkm
  go_enter Try.func26, Try.ntmps26
  go_wp2_with fail
  refine Hok.out.mono ?_
  rintro e w1 ⟨rfl, b1⟩
  have HB := Lib.hid b1
  clear b1
  rcases h1 : keyOkF xs with _ | _
  · go_wp2
    go_ret
    exact ⟨retI (by rw [Hkm.out, h1]; rfl), HB.out⟩
  go_wp2
  go_loopw [5] (fun i w2 => ∃ j : Nat, j ≤ n ∧ i = .int .i64 j ∧ Below w.heap.size w w2 ∧ UpTo (fun _ k => !inB d k.xLow k.xHigh) xs j) (fun i _ => n - (intOf i).toNat)
  case atStart => exact ⟨0, by omega, rfl, HB.out, UpTo.zero⟩
  case round =>
    obtain ⟨j, hj, rfl, hb1, hu⟩ := hrel
    have Hu := Lib.hid hu
    have HB1 := Lib.hid hb1
    clear hu hb1
    by_cases hlt : j < n
    · obtain ⟨ad, cs, hk, rfl, hcl, hca, hE⟩ := RdS.at_ (Hv.out.below HB1.out) hlt
      subst hE
      have HC := Lib.hid hca
      clear hca hcl
      go_wp2_with fail
      rcases h3 : inB d xs[j].xLow xs[j].xHigh with _ | _
      · refine wp_region_steady (fun y => CellsAt y (ad.add (j * 4)) [.int .i64 xs[j].xCtx, .int .i64 xs[j].xLow, .int .i64 xs[j].xHigh, .int .i64 xs[j].xMode] ∧ Below wr.heap.size wr y) (by kernel_rfl) (by kernel_rfl) (⟨HC.out.below (Below.refl _ _).drew, (Below.refl _ _).drew⟩) ?_
        repeat
          (first
            | (refine steady_no (by rfl) ?_)
            | (refine' steady_val (v := _) (by rfl) ?_ ?_
               rotate_left
               focus (intro y hS; have c0 := hS.1.c0; have c1 := hS.1.ci 0 rfl; have c2 := hS.1.ci 1 rfl; have c3 := hS.1.ci 2 rfl; clear hS; go_simp; first | done | with_reducible rfl))
            | (refine' steady_call (f := _) (args := _) _ (by rfl) ?_ ?_ ?_
               rotate_left 3
               focus (intro y hS; have c0 := hS.1.c0; have c1 := hS.1.ci 0 rfl; have c2 := hS.1.ci 1 rfl; have c3 := hS.1.ci 2 rfl; clear hS; go_simp; first | done | with_reducible rfl | (refine ⟨?_, ?_⟩ <;> with_reducible rfl))
               focus (intro y hS; first
                | (refine (l1In_any _ _ _ y).mono ?_; rintro e y' ⟨rfl, rfl⟩; exact ⟨by rw [h3], hS⟩)))
           simp only [Act.put, List.setIfInBounds_toArray, List.set_cons_zero, List.set_cons_succ])
        refine steady_nil ?_
        intro w3 hS3
        have Hfin := Lib.hid (belowOn HB1.out HB1.out.size hS3.2)
        clear hS3
        go_wp2
        exact ⟨⟨j + 1, by omega, by go_num, Hfin.out, Hu.out.succ hk (by simp [h3])⟩, by simp [intOf]; omega⟩
      · refine wp_region_steady (fun y => CellsAt y (ad.add (j * 4)) [.int .i64 xs[j].xCtx, .int .i64 xs[j].xLow, .int .i64 xs[j].xHigh, .int .i64 xs[j].xMode] ∧ Below wr.heap.size wr y) (by kernel_rfl) (by kernel_rfl) (⟨HC.out.below (Below.refl _ _).drew, (Below.refl _ _).drew⟩) ?_
        repeat
          (first
            | (refine steady_no (by rfl) ?_)
            | (refine' steady_val (v := _) (by rfl) ?_ ?_
               rotate_left
               focus (intro y hS; have c0 := hS.1.c0; have c1 := hS.1.ci 0 rfl; have c2 := hS.1.ci 1 rfl; have c3 := hS.1.ci 2 rfl; clear hS; go_simp; first | done | with_reducible rfl))
            | (refine' steady_call (f := _) (args := _) _ (by rfl) ?_ ?_ ?_
               rotate_left 3
               focus (intro y hS; have c0 := hS.1.c0; have c1 := hS.1.ci 0 rfl; have c2 := hS.1.ci 1 rfl; have c3 := hS.1.ci 2 rfl; clear hS; go_simp; first | done | with_reducible rfl | (refine ⟨?_, ?_⟩ <;> with_reducible rfl))
               focus (intro y hS; first
                | (refine (l1In_any _ _ _ y).mono ?_; rintro e y' ⟨rfl, rfl⟩; exact ⟨by rw [h3], hS⟩)))
           simp only [Act.put, List.setIfInBounds_toArray, List.set_cons_zero, List.set_cons_succ])
        refine steady_nil ?_
        intro w3 hS3
        have Hfin := Lib.hid (belowOn HB1.out HB1.out.size hS3.2)
        clear hS3
        go_wp2
        go_ret
        exact ⟨retI (by rw [Hkm.out, h1, if_pos rfl, keyAt_hit xs 0 j hk Hu.out h3]; simp), Hfin.out⟩
    · have : j = n := by omega
      subst this
      go_wp2
      go_ret
      exact ⟨retI (by rw [Hkm.out, h1, if_pos rfl, keyAt_none xs 0 (by rw [Hl.out]; exact Hu.out)]), HB1.out⟩
set_option maxRecDepth 100000 in
set_option maxHeartbeats 2000000 in
theorem implKeyMatch_r (v : Value) (xs : List DKeyRow) (d : Int) (w : World) (hv : RdKeyRowS w v xs) : Calls Try.prog 25 #[v, .int .i64 d] w fun e w' => e = .returned (.int .i64 (keyMatchF xs d)) ∧ Below w.heap.size w w' := by
  have Hv := Lib.hid hv
  have Hok := Lib.hid (implKeyOk_r v xs w hv)
  obtain ⟨A, c, rfl⟩ := RdS.slice hv
  have hc := RdS.cap hv
  clear hv
  have hkm : keyMatchF xs d = if keyOkF xs = true then keyAt d 0 xs else -1 := rfl
  generalize hl : xs.length = n at *
  have Hl := Lib.hid hl
  have Hkm := Lib.hid hkm
  clear hl hkm
  go_enter Try.func25, Try.ntmps25
  go_wp2_with fail
  refine Hok.out.mono ?_
  rintro e w1 ⟨rfl, b1⟩
  have HB := Lib.hid b1
  clear b1
  rcases h1 : keyOkF xs with _ | _
  · go_wp2
    go_ret
    exact ⟨retI (by rw [Hkm.out, h1]; rfl), HB.out⟩
  go_wp2
  go_loopw [12] (fun i w2 => ∃ j : Nat, j ≤ n ∧ i = .int .i64 j ∧ Below w.heap.size w w2 ∧ UpTo (fun _ k => !inB d k.xLow k.xHigh) xs j) (fun i _ => n - (intOf i).toNat)
  case atStart => exact ⟨0, by omega, rfl, HB.out, UpTo.zero⟩
  case round =>
    obtain ⟨j, hj, rfl, hb1, hu⟩ := hrel
    have Hu := Lib.hid hu
    have HB1 := Lib.hid hb1
    clear hu hb1
    by_cases hlt : j < n
    · obtain ⟨ad, cs, hk, rfl, hcl, hca, hE⟩ := RdS.at_ (Hv.out.below HB1.out) hlt
      subst hE
      have HC := Lib.hid hca
      clear hca hcl
      have c0 := HC.out.c0
      have c1 := HC.out.ci 0 rfl
      have c2 := HC.out.ci 1 rfl
      have c3' := HC.out.ci 2 rfl
      have HB1 := Lib.hid (HB1.out.alloc HB1.out.size (.cells #[.int .i64 xs[j].xCtx, .int .i64 xs[j].xLow, .int .i64 xs[j].xHigh, .int .i64 xs[j].xMode] 41))
      rcases h3 : inB d xs[j].xLow xs[j].xHigh with _ | _
      · go_wp2_with (go_at_call 87; refine (frmIn_any _ _ _ _).mono ?_; rintro e w' ⟨rfl, rfl⟩; rw [h3])
        exact ⟨⟨j + 1, by omega, by go_num, HB1.out, Hu.out.succ hk (by simp [h3])⟩, by simp [intOf]; omega⟩
      · go_wp2_with (go_at_call 87; refine (frmIn_any _ _ _ _).mono ?_; rintro e w' ⟨rfl, rfl⟩; rw [h3])
        go_ret
        exact ⟨retI (by rw [Hkm.out, h1, if_pos rfl, keyAt_hit xs 0 j hk Hu.out h3]; simp), HB1.out⟩
    · have : j = n := by omega
      subst this
      go_wp2
      go_ret
      exact ⟨retI (by rw [Hkm.out, h1, if_pos rfl, keyAt_none xs 0 (by rw [Hl.out]; exact Hu.out)]), HB1.out⟩
end Go.Proofs.Ytbceikhmoblacaa
