/-
  The answer of a receiving side: the program's. (Written by wip/tools/genack.py.)
-/
import Derived.Test.YthdjjgbjemaabaaAckS
import Derived.Test.YthdjjgbjemaabaaAckR
import Derived.Test.YthdjjgbjemaabaaAppI
namespace Go.Proofs.Ythdjjgbjemaabaa
open Go.ChangeShapes Go.WideShapes Go.ChangeAt Go.RowKit
set_option linter.unusedVariables false
set_option linter.unusedSimpArgs false

set_option maxRecDepth 100000 in
set_option maxHeartbeats 4000000 in
theorem implDatAck_n (cs : List Value) (x : DDatIn) (w : World) (h : FDatIn w cs x) (hz : zDatIn x ≤ 1048576) : Calls Try.prog 80 #[.agg cs.toArray] w fun e w' => ∃ v f, e = .returned (.tuple #[.int .i64 (ackCum x), v]) ∧ OwFrmGapS w' f v (ackGaps x) ∧ Nw w.heap.size w'.heap.size f ∧ Below w.heap.size w w' := by
  unfold OwFrmGapS
  have HF := Lib.hid h
  obtain ⟨v2, v3, v4, rfl, h2, h3, h4⟩ := h
  clear h2 h3 h4
  have hfl : (farsF x).length ≤ 1048576 := by simp only [farsF, List.length_map]; unfold zDatIn at hz; omega
  have Hrl := Lib.hid (show (runsF (farsF x)).length ≤ 1048576 from Nat.le_trans (runsF_len _) hfl)
  clear hfl
  clear hz
  have Hu1 := Lib.hid (show inOk x = false → ackGaps x = [] ∧ ackCum x = 0 from fun h => by simp [ackGaps, ackCum, h])
  have Hu2 := Lib.hid (show inOk x = true → ackGaps x = (runsF (farsF x)).take 4 ∧ ackCum x = x.xCum from fun h => by simp [ackGaps, ackCum, h])
  have Hasc := Lib.hid (show inOk x = true → _ from fun h => fars_asc h)
  have Hbit := Lib.hid (show inOk x = true → ∀ k : Nat, _ from fun h k => fars_bit (fars_asc h).2 k)
  generalize ackGaps x = ag at *
  generalize ackCum x = ac at *
  generalize farsF x = ns at *
  have K := Lib.hid (Blk.new (w := w) (b := w.heap.size) #[.int .i64 x.xStreams, .int .i64 x.xCum, v2, v3, v4] 87 rfl)
  have HB := Lib.hid ((Below.refl w.heap.size w).alloc (Nat.le_refl _) (.cells #[.int .i64 x.xStreams, .int .i64 x.xCum, v2, v3, v4] 87))
  go_enter Try.func80, Try.ntmps80
  go_wp2_with fail
  refine (implDatInOk_r _ x _ (HF.out.below HB.out)).mono ?_
  rintro e w1 ⟨rfl, b1⟩
  replace K := Lib.hid (K.out.keep b1)
  replace HB := Lib.hid (HB.out.trans (b1.mono HB.out.size))
  clear b1
  rcases hok : inOk x with _ | _
  · obtain ⟨hu, hm⟩ := Hu1.out hok
    have Hu := Lib.hid hu
    have Hm := Lib.hid hm
    clear hu hm
    go_wp2
    refine bodyPost_ret (v := .tuple #[.int .i64 0, .slice none 0 0]) (by simp [results, Try.results80, go_sem]) rfl ?_
    exact ⟨_, [], by rw [Hm.out], by rw [Hu.out]; exact OwL.nil w1, Nw.nil _ _, HB.out⟩
  obtain ⟨hu, hm⟩ := Hu2.out hok
  have Hu := Lib.hid hu
  have Hm := Lib.hid hm
  clear hu hm
  have k0 := K.out.at (i := 0) rfl
  have k1 := K.out.at (i := 1) rfl
  have k2 := K.out.at (i := 2) rfl
  have k3 := K.out.at (i := 3) rfl
  have k4 := K.out.at (i := 4) rfl
  go_wp2_with fail
  refine (datSeenOf_r _ x _ (HF.out.below HB.out)).mono ?_
  rintro e w2 ⟨rfl, b2⟩
  replace K := Lib.hid (K.out.keep b2)
  replace HB := Lib.hid (HB.out.trans (b2.mono HB.out.size))
  clear b2 k0 k1 k2 k3 k4
  go_wp2_with fail
  refine (runs_n _ ns _ (Hasc.out hok).1 (Hasc.out hok).2 (Hbit.out hok)).mono ?_
  rintro e w3 ⟨v, f, rfl, o3, n3, b3⟩
  replace K := Lib.hid (K.out.keep b3)
  have N3 := Lib.hid (n3.mono HB.out.size (Nat.le_refl _))
  replace HB := Lib.hid (HB.out.trans (b3.mono HB.out.size))
  obtain ⟨QA, qc, rfl⟩ := OwL.slice o3
  have O3 := Lib.hid o3
  clear o3 n3 b3
  have Hlen := Lib.hid (show (runsF ns).length ≤ 1048576 from Hrl.out)
  generalize runsF ns = rs at *
  generalize hnl : rs.length = nl at *
  have Hnl := Lib.hid hnl
  clear hnl
  obtain ⟨hi, hhi, hmin, htk⟩ : ∃ hi : Nat, hi ≤ nl ∧ (hi : Int) = min (nl : Int) 4 ∧ rs.take 4 = rs.take hi := by
    rcases Nat.le_total nl 4 with h | h
    · exact ⟨nl, Nat.le_refl _, by omega, by rw [List.take_of_length_le (by rw [Hnl.out]; omega), List.take_of_length_le (by rw [Hnl.out]; omega)]⟩
    · exact ⟨4, h, by omega, rfl⟩
  have Htk := Lib.hid htk
  clear htk
  have Hif := Lib.hid (show (if (4 : Int) < (nl : Int) then (4 : Int) else (nl : Int)) = (hi : Int) by rw [hmin]; split <;> omega)
  have hcap := RdS.cap (O3.out.rd (fun _ _ _ h => EFrmGap.rd h))
  have hhc : hi ≤ qc := by omega
  have hh0 : (0 : Int) ≤ (hi : Int) := by omega
  have hhc' : (hi : Int) ≤ (qc : Int) := by omega
  clear hmin
  go_wp2_with fail
  refine wp_region_steady (fun y => Blk y w.heap.size [.int .i64 x.xStreams, .int .i64 x.xCum, v2, v3, v4] ∧ Below w3.heap.size w3 y) (by kernel_rfl) (by kernel_rfl) (⟨K.out.drew, (Below.refl _ _).drew⟩) ?_
  repeat
    (first
      | (refine steady_no (by rfl) ?_)
      | (refine' steady_val (v := _) (by rfl) ?_ ?_
         rotate_left
         focus (intro y hS; have a1 := hS.1.at (i := 1) rfl; clear hS; go_simp; first | done | with_reducible rfl))
     simp only [Act.put, List.setIfInBounds_toArray, List.set_cons_zero, List.set_cons_succ, Hif.out])
  refine steady_nil ?_
  intro w4 hS4
  have b4 : Below w3.heap.size w3 w4 := hS4.2
  replace HB := Lib.hid (HB.out.trans (b4.mono HB.out.size))
  have O4 := Lib.hid (O3.out.below EFrmGap.framed EFrmGap.inside b4)
  have N4 := Lib.hid (N3.out.mono (Nat.le_refl _) b4.size)
  clear b4 hS4 O3 N3
  obtain ⟨f', o5, hsub, hnd⟩ := OwL.first O4.out hhi
  rw [← Htk.out, ← Hu.out] at o5
  go_wp2
  refine bodyPost_ret (v := .tuple #[.int .i64 x.xCum, .slice QA hi qc]) (by simp [results, Try.results80, go_sem]) rfl ?_
  exact ⟨_, f', by rw [Hm.out], o5, N4.out.sub hsub (hnd N4.out.1), HB.out⟩
end Go.Proofs.Ythdjjgbjemaabaa
