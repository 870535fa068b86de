/-
  Words and the laws' helpers of DatPipe and of lists of it. (Written by wip/tools/gentype.py.)
-/
import Derived.Test.YtcflkcjicaieeaaKin
import Derived.Test.YtcflkcjicaieeaaTyDatAir
import Derived.Test.YtcflkcjicaieeaaTyDatIn
import Derived.Test.YtcflkcjicaieeaaTyDatOut
import Derived.Test.YtcflkcjicaieeaaTyDatUnit
namespace Go.Proofs.Ytcflkcjicaieeaa
open Go.ChangeShapes Go.WideShapes Go.ChangeAt Go.RowKit
set_option linter.unusedVariables false
set_option linter.unusedSimpArgs false

structure DDatPipe where
  xOut : DDatOut
  xIn : DDatIn
  xAir : List DDatAir
  xGiven : List DDatUnit
  xGot : List DDatUnit
def FDatPipe (w : World) (cs : List Value) (x : DDatPipe) : Prop := ∃ v2 v3 v4 v7 v8 v9 v10 v11 v12 : Value, cs = [.int .i64 x.xOut.xStreams, .int .i64 x.xOut.xNext, v2, v3, v4, .int .i64 x.xIn.xStreams, .int .i64 x.xIn.xCum, v7, v8, v9, v10, v11, v12] ∧ RdDatSentS w v2 x.xOut.xFlight ∧ RdDatUnitS w v3 x.xOut.xQueue ∧ RdI w v4 x.xOut.xSsns ∧ RdI w v7 x.xIn.xSeen ∧ RdDatPieceS w v8 x.xIn.xHave ∧ RdI w v9 x.xIn.xSsns ∧ RdDatAirS w v10 x.xAir ∧ RdDatUnitS w v11 x.xGiven ∧ RdDatUnitS w v12 x.xGot
def EDatPipe (w : World) (f : List Nat) (cs : List Value) (x : DDatPipe) : Prop := ∃ (v2 v3 v4 v7 v8 v9 v10 v11 v12 : Value) (f2 f3 f4 f7 f8 f9 f10 f11 f12 : List Nat), cs = [.int .i64 x.xOut.xStreams, .int .i64 x.xOut.xNext, v2, v3, v4, .int .i64 x.xIn.xStreams, .int .i64 x.xIn.xCum, v7, v8, v9, v10, v11, v12] ∧ OwDatSentS w f2 v2 x.xOut.xFlight ∧ OwDatUnitS w f3 v3 x.xOut.xQueue ∧ OwIn w f4 v4 x.xOut.xSsns ∧ OwIn w f7 v7 x.xIn.xSeen ∧ OwDatPieceS w f8 v8 x.xIn.xHave ∧ OwIn w f9 v9 x.xIn.xSsns ∧ OwDatAirS w f10 v10 x.xAir ∧ OwDatUnitS w f11 v11 x.xGiven ∧ OwDatUnitS w f12 v12 x.xGot ∧ f = f2 ++ f3 ++ f4 ++ f7 ++ f8 ++ f9 ++ f10 ++ f11 ++ f12
theorem FDatPipe.below {w w' : World} {cs : List Value} {x : DDatPipe} (h : FDatPipe w cs x) (hb : Below w.heap.size w w') : FDatPipe w' cs x := by
  obtain ⟨v2, v3, v4, v7, v8, v9, v10, v11, v12, rfl, h2, h3, h4, h7, h8, h9, h10, h11, h12⟩ := h
  exact ⟨v2, v3, v4, v7, v8, v9, v10, v11, v12, rfl, h2.below hb, h3.below hb, h4.below hb, h7.below hb, h8.below hb, h9.below hb, h10.below hb, h11.below hb, h12.below hb⟩
theorem EDatPipe.framed : Framed EDatPipe := by
  rintro w w' f cs x ⟨v2, v3, v4, v7, v8, v9, v10, v11, v12, f2, f3, f4, f7, f8, f9, f10, f11, f12, rfl, h2, h3, h4, h7, h8, h9, h10, h11, h12, rfl⟩ hb
  exact ⟨_, _, _, _, _, _, _, _, _, _, _, _, _, _, _, _, _, _, rfl, h2.keep (fun b h => hb b (by simp [h])), h3.keep (fun b h => hb b (by simp [h])), h4.keep (fun b h => hb b (by simp [h])), h7.keep (fun b h => hb b (by simp [h])), h8.keep (fun b h => hb b (by simp [h])), h9.keep (fun b h => hb b (by simp [h])), h10.keep (fun b h => hb b (by simp [h])), h11.keep (fun b h => hb b (by simp [h])), h12.keep (fun b h => hb b (by simp [h])), rfl⟩
theorem EDatPipe.inside : Inside EDatPipe := by
  rintro w f cs x ⟨v2, v3, v4, v7, v8, v9, v10, v11, v12, f2, f3, f4, f7, f8, f9, f10, f11, f12, rfl, h2, h3, h4, h7, h8, h9, h10, h11, h12, rfl⟩ b hb
  simp only [List.mem_append] at hb
  rcases hb with (((((((hb | hb) | hb) | hb) | hb) | hb) | hb) | hb) | hb
  · exact h2.inside b hb
  · exact h3.inside b hb
  · exact h4.inside b hb
  · exact h7.inside b hb
  · exact h8.inside b hb
  · exact h9.inside b hb
  · exact h10.inside b hb
  · exact h11.inside b hb
  · exact h12.inside b hb
theorem EDatPipe.rd {w : World} {f : List Nat} {cs : List Value} {x : DDatPipe} (h : EDatPipe w f cs x) : FDatPipe w cs x := by
  obtain ⟨v2, v3, v4, v7, v8, v9, v10, v11, v12, f2, f3, f4, f7, f8, f9, f10, f11, f12, rfl, h2, h3, h4, h7, h8, h9, h10, h11, h12, rfl⟩ := h
  exact ⟨v2, v3, v4, v7, v8, v9, v10, v11, v12, rfl, h2.rd, h3.rd, h4.rd, h7.rd, h8.rd, h9.rd, h10.rd, h11.rd, h12.rd⟩
abbrev RdDatPipeS (w : World) (v : Value) (xs : List DDatPipe) : Prop := RdS 13 FDatPipe w v xs
def OwDatPipeS (w : World) (f : List Nat) (v : Value) (xs : List DDatPipe) : Prop := OwL 106 13 EDatPipe w f v xs
theorem RdDatPipeS.below {w w' : World} {v : Value} {xs : List DDatPipe} (h : RdDatPipeS w v xs) (hb : Below w.heap.size w w') : RdDatPipeS w' v xs := RdS.below (fun _ _ h => h.below hb) h hb
theorem RdDatPipeS.slice {w : World} {v : Value} {xs : List DDatPipe} (h : RdDatPipeS w v xs) : ∃ A c, v = .slice A xs.length c := RdS.slice h
theorem OwDatPipeS.keep {w w' : World} {f : List Nat} {v : Value} {xs : List DDatPipe} (h : OwDatPipeS w f v xs) (hb : ∀ b ∈ f, w'.heap[b]? = w.heap[b]?) : OwDatPipeS w' f v xs := OwL.keep EDatPipe.framed h hb
theorem OwDatPipeS.inside {w : World} {f : List Nat} {v : Value} {xs : List DDatPipe} (h : OwDatPipeS w f v xs) : ∀ b ∈ f, b < w.heap.size := OwL.inside EDatPipe.inside h
theorem OwDatPipeS.rd {w : World} {f : List Nat} {v : Value} {xs : List DDatPipe} (h : OwDatPipeS w f v xs) : RdDatPipeS w v xs := OwL.rd (fun _ _ _ h => h.rd) h
def zDatPipe (x : DDatPipe) : Nat := zDatOut x.xOut + zDatIn x.xIn + zL zDatAir x.xAir + zL zDatUnit x.xGiven + zL zDatUnit x.xGot

set_option maxHeartbeats 1000000 in
theorem szDatPipe_z (cs : List Value) (x : DDatPipe) (left : Int) (w : World) (h : FDatPipe w cs x) (hl : 0 ≤ left ∧ left ≤ 1048576) :
    Calls Try.prog 76 #[.agg cs.toArray, .int .i64 left] w fun e w' => e = .returned (.int .i64 (szR left (zDatPipe x))) ∧ Below w.heap.size w w' := by
  obtain ⟨v2, v3, v4, v7, v8, v9, v10, v11, v12, rfl, h2, h3, h4, h7, h8, h9, h10, h11, h12⟩ := h
  have Hz := Lib.hid (show zDatPipe x = zDatOut x.xOut + zDatIn x.xIn + zL zDatAir x.xAir + zL zDatUnit x.xGiven + zL zDatUnit x.xGot from rfl)
  generalize zDatPipe x = zx at Hz ⊢
  have K := Lib.hid (Blk.new (w := w) (b := w.heap.size) #[.int .i64 x.xOut.xStreams, .int .i64 x.xOut.xNext, v2, v3, v4, .int .i64 x.xIn.xStreams, .int .i64 x.xIn.xCum, v7, v8, v9, v10, v11, v12] 118 rfl)
  have HB := Lib.hid ((Below.refl w.heap.size w).alloc (Nat.le_refl _) (.cells #[.int .i64 x.xOut.xStreams, .int .i64 x.xOut.xNext, v2, v3, v4, .int .i64 x.xIn.xStreams, .int .i64 x.xIn.xCum, v7, v8, v9, v10, v11, v12] 118))
  have H2 := Lib.hid h2
  have H3 := Lib.hid h3
  have H4 := Lib.hid h4
  have H7 := Lib.hid h7
  have H8 := Lib.hid h8
  have H9 := Lib.hid h9
  have H10 := Lib.hid h10
  have H11 := Lib.hid h11
  have H12 := Lib.hid h12
  clear h2 h3 h4 h7 h8 h9 h10 h11 h12
  go_enter Try.func76, Try.ntmps76
  go_wp2_with fail
  refine (szDatOut_z _ x.xOut _ _ ⟨_, _, _, rfl, (H2.out.below HB.out), (H3.out.below HB.out), (H4.out.below HB.out)⟩ ⟨by omega, by omega⟩).mono ?_
  rintro e w1 ⟨rfl, b1⟩
  have K := Lib.hid (K.out.keep b1)
  have HB := Lib.hid (HB.out.trans (b1.mono HB.out.size))
  clear b1
  have hr0 := szR_cases left (zDatOut x.xOut) (by omega)
  generalize szR left (zDatOut x.xOut) = r0 at *
  rcases hr0 with ⟨rfl, hr0⟩ | ⟨hr0, hs0, ht0⟩
  · have Q := Lib.hid hr0
    go_wp2
    go_ret
    refine ⟨retI ?_, HB.out⟩
    have hz := Hz.out
    have hq := Q.out
    rw [szR_no (by omega)]
  have pc5 := K.out.at (i := 5) rfl
  have pc6 := K.out.at (i := 6) rfl
  have pc7 := K.out.at (i := 7) rfl
  have pc8 := K.out.at (i := 8) rfl
  have pc9 := K.out.at (i := 9) rfl
  go_wp2_with fail
  refine (szDatIn_z _ x.xIn _ _ ⟨_, _, _, rfl, (H7.out.below HB.out), (H8.out.below HB.out), (H9.out.below HB.out)⟩ ⟨by omega, by omega⟩).mono ?_
  rintro e w2 ⟨rfl, b2⟩
  clear pc5 pc6 pc7 pc8 pc9
  have K := Lib.hid (K.out.keep b2)
  have HB := Lib.hid (HB.out.trans (b2.mono HB.out.size))
  clear b2
  have hr1 := szR_cases r0 (zDatIn x.xIn) (by omega)
  generalize szR r0 (zDatIn x.xIn) = r1 at *
  rcases hr1 with ⟨rfl, hr1⟩ | ⟨hr1, hs1, ht1⟩
  · have Q := Lib.hid hr1
    have T0 := Lib.hid ht0
    go_wp2
    go_ret
    refine ⟨retI ?_, HB.out⟩
    have hz := Hz.out
    have hq := Q.out
    have t0 := T0.out
    rw [szR_no (by omega)]
  have pc10 := K.out.at (i := 10) rfl
  go_wp2_with fail
  refine (szDatAirS_z _ x.xAir _ _ (H10.out.below HB.out) ⟨by omega, by omega⟩).mono ?_
  rintro e w3 ⟨rfl, b3⟩
  clear pc10
  have K := Lib.hid (K.out.keep b3)
  have HB := Lib.hid (HB.out.trans (b3.mono HB.out.size))
  clear b3
  have hr2 := szR_cases r1 (zL zDatAir x.xAir) (by omega)
  generalize szR r1 (zL zDatAir x.xAir) = r2 at *
  rcases hr2 with ⟨rfl, hr2⟩ | ⟨hr2, hs2, ht2⟩
  · have Q := Lib.hid hr2
    have T0 := Lib.hid ht0
    have T1 := Lib.hid ht1
    go_wp2
    go_ret
    refine ⟨retI ?_, HB.out⟩
    have hz := Hz.out
    have hq := Q.out
    have t0 := T0.out
    have t1 := T1.out
    rw [szR_no (by omega)]
  have pc11 := K.out.at (i := 11) rfl
  go_wp2_with fail
  refine (szDatUnitS_z _ x.xGiven _ _ (H11.out.below HB.out) ⟨by omega, by omega⟩).mono ?_
  rintro e w4 ⟨rfl, b4⟩
  clear pc11
  have K := Lib.hid (K.out.keep b4)
  have HB := Lib.hid (HB.out.trans (b4.mono HB.out.size))
  clear b4
  have hr3 := szR_cases r2 (zL zDatUnit x.xGiven) (by omega)
  generalize szR r2 (zL zDatUnit x.xGiven) = r3 at *
  rcases hr3 with ⟨rfl, hr3⟩ | ⟨hr3, hs3, ht3⟩
  · have Q := Lib.hid hr3
    have T0 := Lib.hid ht0
    have T1 := Lib.hid ht1
    have T2 := Lib.hid ht2
    go_wp2
    go_ret
    refine ⟨retI ?_, HB.out⟩
    have hz := Hz.out
    have hq := Q.out
    have t0 := T0.out
    have t1 := T1.out
    have t2 := T2.out
    rw [szR_no (by omega)]
  have pc12 := K.out.at (i := 12) rfl
  go_wp2_with fail
  refine (szDatUnitS_z _ x.xGot _ _ (H12.out.below HB.out) ⟨by omega, by omega⟩).mono ?_
  rintro e w5 ⟨rfl, b5⟩
  clear pc12
  have K := Lib.hid (K.out.keep b5)
  have HB := Lib.hid (HB.out.trans (b5.mono HB.out.size))
  clear b5
  have hr4 := szR_cases r3 (zL zDatUnit x.xGot) (by omega)
  generalize szR r3 (zL zDatUnit x.xGot) = r4 at *
  rcases hr4 with ⟨rfl, hr4⟩ | ⟨hr4, hs4, ht4⟩
  · have Q := Lib.hid hr4
    have T0 := Lib.hid ht0
    have T1 := Lib.hid ht1
    have T2 := Lib.hid ht2
    have T3 := Lib.hid ht3
    go_wp2
    go_ret
    refine ⟨retI ?_, HB.out⟩
    have hz := Hz.out
    have hq := Q.out
    have t0 := T0.out
    have t1 := T1.out
    have t2 := T2.out
    have t3 := T3.out
    rw [szR_no (by omega)]
  have hz := Hz.out
  have Hf := Lib.hid (show szR left zx = r4 by rw [szR_yes (by omega)]; omega)
  clear hz
  go_wp2
  go_ret
  exact ⟨retI Hf.out.symm, HB.out⟩

set_option maxRecDepth 100000 in
set_option maxHeartbeats 2000000 in
theorem toDatPipe_n (cs : List Value) (x : DDatPipe) (w : World) (h : FDatPipe w cs x) (hz : zDatPipe x ≤ 1048576) :
    Calls Try.prog 78 #[.agg cs.toArray] w fun e w' => ∃ cs' f, e = .returned (.agg cs'.toArray) ∧ EDatPipe w' f cs' x ∧ Nw w.heap.size w'.heap.size f ∧ Below w.heap.size w w' := by
  obtain ⟨v2, v3, v4, v7, v8, v9, v10, v11, v12, rfl, h2, h3, h4, h7, h8, h9, h10, h11, h12⟩ := h
  simp only [zDatPipe] at hz
  have H2 := Lib.hid h2
  have H3 := Lib.hid h3
  have H4 := Lib.hid h4
  have H7 := Lib.hid h7
  have H8 := Lib.hid h8
  have H9 := Lib.hid h9
  have H10 := Lib.hid h10
  have H11 := Lib.hid h11
  have H12 := Lib.hid h12
  clear h2 h3 h4 h7 h8 h9 h10 h11 h12
  have Hz := Lib.hid hz
  clear hz
  have KA := Lib.hid (((Blk.new (w := w) (b := w.heap.size) #[.int .i64 x.xOut.xStreams, .int .i64 x.xOut.xNext, v2, v3, v4, .int .i64 x.xIn.xStreams, .int .i64 x.xIn.xCum, v7, v8, v9, v10, v11, v12] 118 rfl).alloc (.cells #[.int .i64 0, .int .i64 0, .slice none 0 0, .slice none 0 0, .slice none 0 0, .int .i64 0, .int .i64 0, .slice none 0 0, .slice none 0 0, .slice none 0 0, .slice none 0 0, .slice none 0 0, .slice none 0 0] 106)).alloc (.cells #[.int .i64 0, .int .i64 0, .slice none 0 0, .slice none 0 0, .slice none 0 0, .int .i64 0, .int .i64 0, .slice none 0 0, .slice none 0 0, .slice none 0 0, .slice none 0 0, .slice none 0 0, .slice none 0 0] 106))
  have KR := Lib.hid ((Blk.new (w := w.alloc (.cells #[.int .i64 x.xOut.xStreams, .int .i64 x.xOut.xNext, v2, v3, v4, .int .i64 x.xIn.xStreams, .int .i64 x.xIn.xCum, v7, v8, v9, v10, v11, v12] 118)) (b := w.heap.size + 1) #[.int .i64 0, .int .i64 0, .slice none 0 0, .slice none 0 0, .slice none 0 0, .int .i64 0, .int .i64 0, .slice none 0 0, .slice none 0 0, .slice none 0 0, .slice none 0 0, .slice none 0 0, .slice none 0 0] 106 (by simp)).alloc (.cells #[.int .i64 0, .int .i64 0, .slice none 0 0, .slice none 0 0, .slice none 0 0, .int .i64 0, .int .i64 0, .slice none 0 0, .slice none 0 0, .slice none 0 0, .slice none 0 0, .slice none 0 0, .slice none 0 0] 106))
  have KO := Lib.hid (Blk.new (w := (w.alloc (.cells #[.int .i64 x.xOut.xStreams, .int .i64 x.xOut.xNext, v2, v3, v4, .int .i64 x.xIn.xStreams, .int .i64 x.xIn.xCum, v7, v8, v9, v10, v11, v12] 118)).alloc (.cells #[.int .i64 0, .int .i64 0, .slice none 0 0, .slice none 0 0, .slice none 0 0, .int .i64 0, .int .i64 0, .slice none 0 0, .slice none 0 0, .slice none 0 0, .slice none 0 0, .slice none 0 0, .slice none 0 0] 106)) (b := w.heap.size + 1 + 1) #[.int .i64 0, .int .i64 0, .slice none 0 0, .slice none 0 0, .slice none 0 0, .int .i64 0, .int .i64 0, .slice none 0 0, .slice none 0 0, .slice none 0 0, .slice none 0 0, .slice none 0 0, .slice none 0 0] 106 (by simp))
  have HB := Lib.hid (below3 w (.cells #[.int .i64 x.xOut.xStreams, .int .i64 x.xOut.xNext, v2, v3, v4, .int .i64 x.xIn.xStreams, .int .i64 x.xIn.xCum, v7, v8, v9, v10, v11, v12] 118) (.cells #[.int .i64 0, .int .i64 0, .slice none 0 0, .slice none 0 0, .slice none 0 0, .int .i64 0, .int .i64 0, .slice none 0 0, .slice none 0 0, .slice none 0 0, .slice none 0 0, .slice none 0 0, .slice none 0 0] 106) (.cells #[.int .i64 0, .int .i64 0, .slice none 0 0, .slice none 0 0, .slice none 0 0, .int .i64 0, .int .i64 0, .slice none 0 0, .slice none 0 0, .slice none 0 0, .slice none 0 0, .slice none 0 0, .slice none 0 0] 106))
  have HS : w.heap.size + 3 ≤ (((w.alloc (.cells #[.int .i64 x.xOut.xStreams, .int .i64 x.xOut.xNext, v2, v3, v4, .int .i64 x.xIn.xStreams, .int .i64 x.xIn.xCum, v7, v8, v9, v10, v11, v12] 118)).alloc (.cells #[.int .i64 0, .int .i64 0, .slice none 0 0, .slice none 0 0, .slice none 0 0, .int .i64 0, .int .i64 0, .slice none 0 0, .slice none 0 0, .slice none 0 0, .slice none 0 0, .slice none 0 0, .slice none 0 0] 106)).alloc (.cells #[.int .i64 0, .int .i64 0, .slice none 0 0, .slice none 0 0, .slice none 0 0, .int .i64 0, .int .i64 0, .slice none 0 0, .slice none 0 0, .slice none 0 0, .slice none 0 0, .slice none 0 0, .slice none 0 0] 106)).heap.size := by simp
  go_enter Try.func78, Try.ntmps78
  go_wp2_with fail
  refine (toDatOut_n _ x.xOut _ ⟨_, _, _, rfl, (H2.out.below (by exact HB.out)), (H3.out.below (by exact HB.out)), (H4.out.below (by exact HB.out))⟩ (by have := Hz.out; omega)).mono ?_
  rintro e w1 ⟨cs0, g0s, rfl, ⟨u2, u3, u4, g2, g3, g4, rfl, o2, o3, o4, rfl⟩, ns0, b1⟩
  obtain ⟨A2, c2, rfl⟩ := o2.rd.slice
  obtain ⟨A3, c3, rfl⟩ := o3.rd.slice
  obtain ⟨A4, c4, rfl⟩ := o4.rd.slice
  have KA := Lib.hid (KA.out.keep b1)
  have KR := Lib.hid (KR.out.keep b1)
  have KO := Lib.hid (KO.out.keep b1)
  have HS : w.heap.size + 3 ≤ w1.heap.size := Nat.le_trans HS b1.size
  have S1 := Lib.hid HS
  have FR0 := Lib.hid (FrL.refl [w.heap.size + 1, w.heap.size + 1 + 1] w1)
  have HB := Lib.hid (HB.out.trans (b1.mono HB.out.size))
  have O2 := Lib.hid o2
  clear o2
  have O3 := Lib.hid o3
  clear o3
  have O4 := Lib.hid o4
  clear o4
  have N0 := Lib.hid (ns0.mono (lo' := w.heap.size + 3) (by simp) (Nat.le_refl _))
  clear ns0 b1
  have ac0 := KA.out.at (i := 0) rfl
  have oc0 := KO.out.at (i := 0) rfl
  have of0 := KO.out.frozen 0
  have ac1 := KA.out.at (i := 1) rfl
  have oc1 := KO.out.at (i := 1) rfl
  have of1 := KO.out.frozen 1
  have ac2 := KA.out.at (i := 2) rfl
  have oc2 := KO.out.at (i := 2) rfl
  have of2 := KO.out.frozen 2
  have ac3 := KA.out.at (i := 3) rfl
  have oc3 := KO.out.at (i := 3) rfl
  have of3 := KO.out.frozen 3
  have ac4 := KA.out.at (i := 4) rfl
  have oc4 := KO.out.at (i := 4) rfl
  have of4 := KO.out.frozen 4
  have ac5 := KA.out.at (i := 5) rfl
  have oc5 := KO.out.at (i := 5) rfl
  have ac6 := KA.out.at (i := 6) rfl
  have oc6 := KO.out.at (i := 6) rfl
  have ac7 := KA.out.at (i := 7) rfl
  have oc7 := KO.out.at (i := 7) rfl
  have ac8 := KA.out.at (i := 8) rfl
  have oc8 := KO.out.at (i := 8) rfl
  have ac9 := KA.out.at (i := 9) rfl
  have oc9 := KO.out.at (i := 9) rfl
  have ac10 := KA.out.at (i := 10) rfl
  have oc10 := KO.out.at (i := 10) rfl
  have ac11 := KA.out.at (i := 11) rfl
  have oc11 := KO.out.at (i := 11) rfl
  have ac12 := KA.out.at (i := 12) rfl
  have oc12 := KO.out.at (i := 12) rfl
  have KA := Lib.hid (KA.out.far (b' := w.heap.size + 1 + 1) (o := 0) (v := .int .i64 x.xOut.xStreams) (by omega))
  have KR := Lib.hid (KR.out.far (b' := w.heap.size + 1 + 1) (o := 0) (v := .int .i64 x.xOut.xStreams) (by omega))
  have KO := Lib.hid (KO.out.set (i := 0) (v := .int .i64 x.xOut.xStreams) (by simp))
  have FR0 := Lib.hid (FR0.out.set (g := w.heap.size + 1 + 1) (o := 0) (.int .i64 x.xOut.xStreams) (by simp))
  have HB := Lib.hid (HB.out.setCell (p := ⟨w.heap.size + 1 + 1, 0, none⟩) (by simp <;> omega) (.int .i64 x.xOut.xStreams))
  have KA := Lib.hid (KA.out.far (b' := w.heap.size + 1 + 1) (o := 1) (v := .int .i64 x.xOut.xNext) (by omega))
  have KR := Lib.hid (KR.out.far (b' := w.heap.size + 1 + 1) (o := 1) (v := .int .i64 x.xOut.xNext) (by omega))
  have KO := Lib.hid (KO.out.set (i := 1) (v := .int .i64 x.xOut.xNext) (by simp))
  have FR0 := Lib.hid (FR0.out.set (g := w.heap.size + 1 + 1) (o := 1) (.int .i64 x.xOut.xNext) (by simp))
  have HB := Lib.hid (HB.out.setCell (p := ⟨w.heap.size + 1 + 1, 1, none⟩) (by simp <;> omega) (.int .i64 x.xOut.xNext))
  have KA := Lib.hid (KA.out.far (b' := w.heap.size + 1 + 1) (o := 2) (v := .slice A2 x.xOut.xFlight.length c2) (by omega))
  have KR := Lib.hid (KR.out.far (b' := w.heap.size + 1 + 1) (o := 2) (v := .slice A2 x.xOut.xFlight.length c2) (by omega))
  have KO := Lib.hid (KO.out.set (i := 2) (v := .slice A2 x.xOut.xFlight.length c2) (by simp))
  have FR0 := Lib.hid (FR0.out.set (g := w.heap.size + 1 + 1) (o := 2) (.slice A2 x.xOut.xFlight.length c2) (by simp))
  have HB := Lib.hid (HB.out.setCell (p := ⟨w.heap.size + 1 + 1, 2, none⟩) (by simp <;> omega) (.slice A2 x.xOut.xFlight.length c2))
  have KA := Lib.hid (KA.out.far (b' := w.heap.size + 1 + 1) (o := 3) (v := .slice A3 x.xOut.xQueue.length c3) (by omega))
  have KR := Lib.hid (KR.out.far (b' := w.heap.size + 1 + 1) (o := 3) (v := .slice A3 x.xOut.xQueue.length c3) (by omega))
  have KO := Lib.hid (KO.out.set (i := 3) (v := .slice A3 x.xOut.xQueue.length c3) (by simp))
  have FR0 := Lib.hid (FR0.out.set (g := w.heap.size + 1 + 1) (o := 3) (.slice A3 x.xOut.xQueue.length c3) (by simp))
  have HB := Lib.hid (HB.out.setCell (p := ⟨w.heap.size + 1 + 1, 3, none⟩) (by simp <;> omega) (.slice A3 x.xOut.xQueue.length c3))
  have KA := Lib.hid (KA.out.far (b' := w.heap.size + 1 + 1) (o := 4) (v := .slice A4 x.xOut.xSsns.length c4) (by omega))
  have KR := Lib.hid (KR.out.far (b' := w.heap.size + 1 + 1) (o := 4) (v := .slice A4 x.xOut.xSsns.length c4) (by omega))
  have KO := Lib.hid (KO.out.set (i := 4) (v := .slice A4 x.xOut.xSsns.length c4) (by simp))
  have FR0 := Lib.hid (FR0.out.set (g := w.heap.size + 1 + 1) (o := 4) (.slice A4 x.xOut.xSsns.length c4) (by simp))
  have HB := Lib.hid (HB.out.setCell (p := ⟨w.heap.size + 1 + 1, 4, none⟩) (by simp <;> omega) (.slice A4 x.xOut.xSsns.length c4))
  have HS : w.heap.size + 3 ≤ ((((((w1.setCell ⟨w.heap.size + 1 + 1, 0, none⟩ (.int .i64 x.xOut.xStreams)).setCell ⟨w.heap.size + 1 + 1, 1, none⟩ (.int .i64 x.xOut.xNext)).setCell ⟨w.heap.size + 1 + 1, 2, none⟩ (.slice A2 x.xOut.xFlight.length c2)).setCell ⟨w.heap.size + 1 + 1, 3, none⟩ (.slice A3 x.xOut.xQueue.length c3)).setCell ⟨w.heap.size + 1 + 1, 4, none⟩ (.slice A4 x.xOut.xSsns.length c4))).heap.size := by simpa [size_set] using HS
  go_wp2_with fail
  clear ac0 oc0 ac1 oc1 ac2 oc2 ac3 oc3 ac4 oc4 ac5 oc5 ac6 oc6 ac7 oc7 ac8 oc8 ac9 oc9 ac10 oc10 ac11 oc11 ac12 oc12 of0 of1 of2 of3 of4
  refine (toDatIn_n _ x.xIn _ ⟨_, _, _, rfl, (H7.out.below (by exact HB.out)), (H8.out.below (by exact HB.out)), (H9.out.below (by exact HB.out))⟩ (by have := Hz.out; omega)).mono ?_
  rintro e w2 ⟨cs1, g1s, rfl, ⟨u7, u8, u9, g7, g8, g9, rfl, o7, o8, o9, rfl⟩, ns1, b2⟩
  obtain ⟨A7, c7, rfl⟩ := o7.rd.slice
  obtain ⟨A8, c8, rfl⟩ := o8.rd.slice
  obtain ⟨A9, c9, rfl⟩ := o9.rd.slice
  have KA := Lib.hid (KA.out.keep b2)
  have KR := Lib.hid (KR.out.keep b2)
  have KO := Lib.hid (KO.out.keep b2)
  have HS : w.heap.size + 3 ≤ w2.heap.size := Nat.le_trans HS b2.size
  have S2 := Lib.hid HS
  have Y1 := Lib.hid (show w1.heap.size ≤ w2.heap.size by have := b2.size; simpa [size_set] using this)
  have FR0 := Lib.hid (FR0.out.trans (FrL.of_below b2))
  have FR1 := Lib.hid (FrL.refl [w.heap.size + 1, w.heap.size + 1 + 1] w2)
  have HB := Lib.hid (HB.out.trans (b2.mono HB.out.size))
  have O7 := Lib.hid o7
  clear o7
  have O8 := Lib.hid o8
  clear o8
  have O9 := Lib.hid o9
  clear o9
  have N1 := Lib.hid (ns1.mono (lo' := w1.heap.size) (by simp [size_set]) (Nat.le_refl _))
  clear ns1 b2
  have ac0 := KA.out.at (i := 0) rfl
  have oc0 := KO.out.at (i := 0) rfl
  have ac1 := KA.out.at (i := 1) rfl
  have oc1 := KO.out.at (i := 1) rfl
  have ac2 := KA.out.at (i := 2) rfl
  have oc2 := KO.out.at (i := 2) rfl
  have ac3 := KA.out.at (i := 3) rfl
  have oc3 := KO.out.at (i := 3) rfl
  have ac4 := KA.out.at (i := 4) rfl
  have oc4 := KO.out.at (i := 4) rfl
  have ac5 := KA.out.at (i := 5) rfl
  have oc5 := KO.out.at (i := 5) rfl
  have of5 := KO.out.frozen 5
  have ac6 := KA.out.at (i := 6) rfl
  have oc6 := KO.out.at (i := 6) rfl
  have of6 := KO.out.frozen 6
  have ac7 := KA.out.at (i := 7) rfl
  have oc7 := KO.out.at (i := 7) rfl
  have of7 := KO.out.frozen 7
  have ac8 := KA.out.at (i := 8) rfl
  have oc8 := KO.out.at (i := 8) rfl
  have of8 := KO.out.frozen 8
  have ac9 := KA.out.at (i := 9) rfl
  have oc9 := KO.out.at (i := 9) rfl
  have of9 := KO.out.frozen 9
  have ac10 := KA.out.at (i := 10) rfl
  have oc10 := KO.out.at (i := 10) rfl
  have ac11 := KA.out.at (i := 11) rfl
  have oc11 := KO.out.at (i := 11) rfl
  have ac12 := KA.out.at (i := 12) rfl
  have oc12 := KO.out.at (i := 12) rfl
  have KA := Lib.hid (KA.out.far (b' := w.heap.size + 1 + 1) (o := 5) (v := .int .i64 x.xIn.xStreams) (by omega))
  have KR := Lib.hid (KR.out.far (b' := w.heap.size + 1 + 1) (o := 5) (v := .int .i64 x.xIn.xStreams) (by omega))
  have KO := Lib.hid (KO.out.set (i := 5) (v := .int .i64 x.xIn.xStreams) (by simp))
  have FR0 := Lib.hid (FR0.out.set (g := w.heap.size + 1 + 1) (o := 5) (.int .i64 x.xIn.xStreams) (by simp))
  have FR1 := Lib.hid (FR1.out.set (g := w.heap.size + 1 + 1) (o := 5) (.int .i64 x.xIn.xStreams) (by simp))
  have HB := Lib.hid (HB.out.setCell (p := ⟨w.heap.size + 1 + 1, 5, none⟩) (by simp <;> omega) (.int .i64 x.xIn.xStreams))
  have KA := Lib.hid (KA.out.far (b' := w.heap.size + 1 + 1) (o := 6) (v := .int .i64 x.xIn.xCum) (by omega))
  have KR := Lib.hid (KR.out.far (b' := w.heap.size + 1 + 1) (o := 6) (v := .int .i64 x.xIn.xCum) (by omega))
  have KO := Lib.hid (KO.out.set (i := 6) (v := .int .i64 x.xIn.xCum) (by simp))
  have FR0 := Lib.hid (FR0.out.set (g := w.heap.size + 1 + 1) (o := 6) (.int .i64 x.xIn.xCum) (by simp))
  have FR1 := Lib.hid (FR1.out.set (g := w.heap.size + 1 + 1) (o := 6) (.int .i64 x.xIn.xCum) (by simp))
  have HB := Lib.hid (HB.out.setCell (p := ⟨w.heap.size + 1 + 1, 6, none⟩) (by simp <;> omega) (.int .i64 x.xIn.xCum))
  have KA := Lib.hid (KA.out.far (b' := w.heap.size + 1 + 1) (o := 7) (v := .slice A7 x.xIn.xSeen.length c7) (by omega))
  have KR := Lib.hid (KR.out.far (b' := w.heap.size + 1 + 1) (o := 7) (v := .slice A7 x.xIn.xSeen.length c7) (by omega))
  have KO := Lib.hid (KO.out.set (i := 7) (v := .slice A7 x.xIn.xSeen.length c7) (by simp))
  have FR0 := Lib.hid (FR0.out.set (g := w.heap.size + 1 + 1) (o := 7) (.slice A7 x.xIn.xSeen.length c7) (by simp))
  have FR1 := Lib.hid (FR1.out.set (g := w.heap.size + 1 + 1) (o := 7) (.slice A7 x.xIn.xSeen.length c7) (by simp))
  have HB := Lib.hid (HB.out.setCell (p := ⟨w.heap.size + 1 + 1, 7, none⟩) (by simp <;> omega) (.slice A7 x.xIn.xSeen.length c7))
  have KA := Lib.hid (KA.out.far (b' := w.heap.size + 1 + 1) (o := 8) (v := .slice A8 x.xIn.xHave.length c8) (by omega))
  have KR := Lib.hid (KR.out.far (b' := w.heap.size + 1 + 1) (o := 8) (v := .slice A8 x.xIn.xHave.length c8) (by omega))
  have KO := Lib.hid (KO.out.set (i := 8) (v := .slice A8 x.xIn.xHave.length c8) (by simp))
  have FR0 := Lib.hid (FR0.out.set (g := w.heap.size + 1 + 1) (o := 8) (.slice A8 x.xIn.xHave.length c8) (by simp))
  have FR1 := Lib.hid (FR1.out.set (g := w.heap.size + 1 + 1) (o := 8) (.slice A8 x.xIn.xHave.length c8) (by simp))
  have HB := Lib.hid (HB.out.setCell (p := ⟨w.heap.size + 1 + 1, 8, none⟩) (by simp <;> omega) (.slice A8 x.xIn.xHave.length c8))
  have KA := Lib.hid (KA.out.far (b' := w.heap.size + 1 + 1) (o := 9) (v := .slice A9 x.xIn.xSsns.length c9) (by omega))
  have KR := Lib.hid (KR.out.far (b' := w.heap.size + 1 + 1) (o := 9) (v := .slice A9 x.xIn.xSsns.length c9) (by omega))
  have KO := Lib.hid (KO.out.set (i := 9) (v := .slice A9 x.xIn.xSsns.length c9) (by simp))
  have FR0 := Lib.hid (FR0.out.set (g := w.heap.size + 1 + 1) (o := 9) (.slice A9 x.xIn.xSsns.length c9) (by simp))
  have FR1 := Lib.hid (FR1.out.set (g := w.heap.size + 1 + 1) (o := 9) (.slice A9 x.xIn.xSsns.length c9) (by simp))
  have HB := Lib.hid (HB.out.setCell (p := ⟨w.heap.size + 1 + 1, 9, none⟩) (by simp <;> omega) (.slice A9 x.xIn.xSsns.length c9))
  have HS : w.heap.size + 3 ≤ ((((((w2.setCell ⟨w.heap.size + 1 + 1, 5, none⟩ (.int .i64 x.xIn.xStreams)).setCell ⟨w.heap.size + 1 + 1, 6, none⟩ (.int .i64 x.xIn.xCum)).setCell ⟨w.heap.size + 1 + 1, 7, none⟩ (.slice A7 x.xIn.xSeen.length c7)).setCell ⟨w.heap.size + 1 + 1, 8, none⟩ (.slice A8 x.xIn.xHave.length c8)).setCell ⟨w.heap.size + 1 + 1, 9, none⟩ (.slice A9 x.xIn.xSsns.length c9))).heap.size := by simpa [size_set] using HS
  go_wp2_with fail
  clear ac0 oc0 ac1 oc1 ac2 oc2 ac3 oc3 ac4 oc4 ac5 oc5 ac6 oc6 ac7 oc7 ac8 oc8 ac9 oc9 ac10 oc10 ac11 oc11 ac12 oc12 of5 of6 of7 of8 of9
  refine (toDatAirS_n _ x.xAir _ (H10.out.below (by exact HB.out)) (by have := Hz.out; omega)).mono ?_
  rintro e w3 ⟨u10, g10, rfl, o10, n10, b3⟩
  obtain ⟨A10, c10, rfl⟩ := o10.rd.slice
  have KA := Lib.hid (KA.out.keep b3)
  have KR := Lib.hid (KR.out.keep b3)
  have KO := Lib.hid (KO.out.keep b3)
  have HS : w.heap.size + 3 ≤ w3.heap.size := Nat.le_trans HS b3.size
  have S3 := Lib.hid HS
  have Y2 := Lib.hid (show w2.heap.size ≤ w3.heap.size by have := b3.size; simpa [size_set] using this)
  have FR0 := Lib.hid (FR0.out.trans (FrL.of_below b3))
  have FR1 := Lib.hid (FR1.out.trans (FrL.of_below b3))
  have FR2 := Lib.hid (FrL.refl [w.heap.size + 1, w.heap.size + 1 + 1] w3)
  have HB := Lib.hid (HB.out.trans (b3.mono HB.out.size))
  have O10 := Lib.hid o10
  have N2 := Lib.hid (n10.mono (lo' := w2.heap.size) (by simp [size_set]) (Nat.le_refl _))
  clear o10 n10 b3
  have ac0 := KA.out.at (i := 0) rfl
  have oc0 := KO.out.at (i := 0) rfl
  have ac1 := KA.out.at (i := 1) rfl
  have oc1 := KO.out.at (i := 1) rfl
  have ac2 := KA.out.at (i := 2) rfl
  have oc2 := KO.out.at (i := 2) rfl
  have ac3 := KA.out.at (i := 3) rfl
  have oc3 := KO.out.at (i := 3) rfl
  have ac4 := KA.out.at (i := 4) rfl
  have oc4 := KO.out.at (i := 4) rfl
  have ac5 := KA.out.at (i := 5) rfl
  have oc5 := KO.out.at (i := 5) rfl
  have ac6 := KA.out.at (i := 6) rfl
  have oc6 := KO.out.at (i := 6) rfl
  have ac7 := KA.out.at (i := 7) rfl
  have oc7 := KO.out.at (i := 7) rfl
  have ac8 := KA.out.at (i := 8) rfl
  have oc8 := KO.out.at (i := 8) rfl
  have ac9 := KA.out.at (i := 9) rfl
  have oc9 := KO.out.at (i := 9) rfl
  have ac10 := KA.out.at (i := 10) rfl
  have oc10 := KO.out.at (i := 10) rfl
  have of10 := KO.out.frozen 10
  have ac11 := KA.out.at (i := 11) rfl
  have oc11 := KO.out.at (i := 11) rfl
  have ac12 := KA.out.at (i := 12) rfl
  have oc12 := KO.out.at (i := 12) rfl
  have KA := Lib.hid (KA.out.far (b' := w.heap.size + 1 + 1) (o := 10) (v := .slice A10 x.xAir.length c10) (by omega))
  have KR := Lib.hid (KR.out.far (b' := w.heap.size + 1 + 1) (o := 10) (v := .slice A10 x.xAir.length c10) (by omega))
  have KO := Lib.hid (KO.out.set (i := 10) (v := .slice A10 x.xAir.length c10) (by simp))
  have FR0 := Lib.hid (FR0.out.set (g := w.heap.size + 1 + 1) (o := 10) (.slice A10 x.xAir.length c10) (by simp))
  have FR1 := Lib.hid (FR1.out.set (g := w.heap.size + 1 + 1) (o := 10) (.slice A10 x.xAir.length c10) (by simp))
  have FR2 := Lib.hid (FR2.out.set (g := w.heap.size + 1 + 1) (o := 10) (.slice A10 x.xAir.length c10) (by simp))
  have HB := Lib.hid (HB.out.setCell (p := ⟨w.heap.size + 1 + 1, 10, none⟩) (by simp <;> omega) (.slice A10 x.xAir.length c10))
  have HS : w.heap.size + 3 ≤ ((w3.setCell ⟨w.heap.size + 1 + 1, 10, none⟩ (.slice A10 x.xAir.length c10))).heap.size := by simpa [size_set] using HS
  go_wp2_with fail
  clear ac0 oc0 ac1 oc1 ac2 oc2 ac3 oc3 ac4 oc4 ac5 oc5 ac6 oc6 ac7 oc7 ac8 oc8 ac9 oc9 ac10 oc10 ac11 oc11 ac12 oc12 of10
  refine (toDatUnitS_n _ x.xGiven _ (H11.out.below (by exact HB.out)) (by have := Hz.out; omega)).mono ?_
  rintro e w4 ⟨u11, g11, rfl, o11, n11, b4⟩
  obtain ⟨A11, c11, rfl⟩ := o11.rd.slice
  have KA := Lib.hid (KA.out.keep b4)
  have KR := Lib.hid (KR.out.keep b4)
  have KO := Lib.hid (KO.out.keep b4)
  have HS : w.heap.size + 3 ≤ w4.heap.size := Nat.le_trans HS b4.size
  have S4 := Lib.hid HS
  have Y3 := Lib.hid (show w3.heap.size ≤ w4.heap.size by have := b4.size; simpa [size_set] using this)
  have FR0 := Lib.hid (FR0.out.trans (FrL.of_below b4))
  have FR1 := Lib.hid (FR1.out.trans (FrL.of_below b4))
  have FR2 := Lib.hid (FR2.out.trans (FrL.of_below b4))
  have FR3 := Lib.hid (FrL.refl [w.heap.size + 1, w.heap.size + 1 + 1] w4)
  have HB := Lib.hid (HB.out.trans (b4.mono HB.out.size))
  have O11 := Lib.hid o11
  have N3 := Lib.hid (n11.mono (lo' := w3.heap.size) (by simp [size_set]) (Nat.le_refl _))
  clear o11 n11 b4
  have ac0 := KA.out.at (i := 0) rfl
  have oc0 := KO.out.at (i := 0) rfl
  have ac1 := KA.out.at (i := 1) rfl
  have oc1 := KO.out.at (i := 1) rfl
  have ac2 := KA.out.at (i := 2) rfl
  have oc2 := KO.out.at (i := 2) rfl
  have ac3 := KA.out.at (i := 3) rfl
  have oc3 := KO.out.at (i := 3) rfl
  have ac4 := KA.out.at (i := 4) rfl
  have oc4 := KO.out.at (i := 4) rfl
  have ac5 := KA.out.at (i := 5) rfl
  have oc5 := KO.out.at (i := 5) rfl
  have ac6 := KA.out.at (i := 6) rfl
  have oc6 := KO.out.at (i := 6) rfl
  have ac7 := KA.out.at (i := 7) rfl
  have oc7 := KO.out.at (i := 7) rfl
  have ac8 := KA.out.at (i := 8) rfl
  have oc8 := KO.out.at (i := 8) rfl
  have ac9 := KA.out.at (i := 9) rfl
  have oc9 := KO.out.at (i := 9) rfl
  have ac10 := KA.out.at (i := 10) rfl
  have oc10 := KO.out.at (i := 10) rfl
  have ac11 := KA.out.at (i := 11) rfl
  have oc11 := KO.out.at (i := 11) rfl
  have of11 := KO.out.frozen 11
  have ac12 := KA.out.at (i := 12) rfl
  have oc12 := KO.out.at (i := 12) rfl
  have KA := Lib.hid (KA.out.far (b' := w.heap.size + 1 + 1) (o := 11) (v := .slice A11 x.xGiven.length c11) (by omega))
  have KR := Lib.hid (KR.out.far (b' := w.heap.size + 1 + 1) (o := 11) (v := .slice A11 x.xGiven.length c11) (by omega))
  have KO := Lib.hid (KO.out.set (i := 11) (v := .slice A11 x.xGiven.length c11) (by simp))
  have FR0 := Lib.hid (FR0.out.set (g := w.heap.size + 1 + 1) (o := 11) (.slice A11 x.xGiven.length c11) (by simp))
  have FR1 := Lib.hid (FR1.out.set (g := w.heap.size + 1 + 1) (o := 11) (.slice A11 x.xGiven.length c11) (by simp))
  have FR2 := Lib.hid (FR2.out.set (g := w.heap.size + 1 + 1) (o := 11) (.slice A11 x.xGiven.length c11) (by simp))
  have FR3 := Lib.hid (FR3.out.set (g := w.heap.size + 1 + 1) (o := 11) (.slice A11 x.xGiven.length c11) (by simp))
  have HB := Lib.hid (HB.out.setCell (p := ⟨w.heap.size + 1 + 1, 11, none⟩) (by simp <;> omega) (.slice A11 x.xGiven.length c11))
  have HS : w.heap.size + 3 ≤ ((w4.setCell ⟨w.heap.size + 1 + 1, 11, none⟩ (.slice A11 x.xGiven.length c11))).heap.size := by simpa [size_set] using HS
  go_wp2_with fail
  clear ac0 oc0 ac1 oc1 ac2 oc2 ac3 oc3 ac4 oc4 ac5 oc5 ac6 oc6 ac7 oc7 ac8 oc8 ac9 oc9 ac10 oc10 ac11 oc11 ac12 oc12 of11
  refine (toDatUnitS_n _ x.xGot _ (H12.out.below (by exact HB.out)) (by have := Hz.out; omega)).mono ?_
  rintro e w5 ⟨u12, g12, rfl, o12, n12, b5⟩
  obtain ⟨A12, c12, rfl⟩ := o12.rd.slice
  have KA := Lib.hid (KA.out.keep b5)
  have KR := Lib.hid (KR.out.keep b5)
  have KO := Lib.hid (KO.out.keep b5)
  have HS : w.heap.size + 3 ≤ w5.heap.size := Nat.le_trans HS b5.size
  have S5 := Lib.hid HS
  have Y4 := Lib.hid (show w4.heap.size ≤ w5.heap.size by have := b5.size; simpa [size_set] using this)
  have FR0 := Lib.hid (FR0.out.trans (FrL.of_below b5))
  have FR1 := Lib.hid (FR1.out.trans (FrL.of_below b5))
  have FR2 := Lib.hid (FR2.out.trans (FrL.of_below b5))
  have FR3 := Lib.hid (FR3.out.trans (FrL.of_below b5))
  have FR4 := Lib.hid (FrL.refl [w.heap.size + 1, w.heap.size + 1 + 1] w5)
  have HB := Lib.hid (HB.out.trans (b5.mono HB.out.size))
  have O12 := Lib.hid o12
  have N4 := Lib.hid (n12.mono (lo' := w4.heap.size) (by simp [size_set]) (Nat.le_refl _))
  clear o12 n12 b5
  have ac0 := KA.out.at (i := 0) rfl
  have oc0 := KO.out.at (i := 0) rfl
  have rc0 := KR.out.at (i := 0) rfl
  have rf0 := KR.out.frozen 0
  have ac1 := KA.out.at (i := 1) rfl
  have oc1 := KO.out.at (i := 1) rfl
  have rc1 := KR.out.at (i := 1) rfl
  have rf1 := KR.out.frozen 1
  have ac2 := KA.out.at (i := 2) rfl
  have oc2 := KO.out.at (i := 2) rfl
  have rc2 := KR.out.at (i := 2) rfl
  have rf2 := KR.out.frozen 2
  have ac3 := KA.out.at (i := 3) rfl
  have oc3 := KO.out.at (i := 3) rfl
  have rc3 := KR.out.at (i := 3) rfl
  have rf3 := KR.out.frozen 3
  have ac4 := KA.out.at (i := 4) rfl
  have oc4 := KO.out.at (i := 4) rfl
  have rc4 := KR.out.at (i := 4) rfl
  have rf4 := KR.out.frozen 4
  have ac5 := KA.out.at (i := 5) rfl
  have oc5 := KO.out.at (i := 5) rfl
  have rc5 := KR.out.at (i := 5) rfl
  have rf5 := KR.out.frozen 5
  have ac6 := KA.out.at (i := 6) rfl
  have oc6 := KO.out.at (i := 6) rfl
  have rc6 := KR.out.at (i := 6) rfl
  have rf6 := KR.out.frozen 6
  have ac7 := KA.out.at (i := 7) rfl
  have oc7 := KO.out.at (i := 7) rfl
  have rc7 := KR.out.at (i := 7) rfl
  have rf7 := KR.out.frozen 7
  have ac8 := KA.out.at (i := 8) rfl
  have oc8 := KO.out.at (i := 8) rfl
  have rc8 := KR.out.at (i := 8) rfl
  have rf8 := KR.out.frozen 8
  have ac9 := KA.out.at (i := 9) rfl
  have oc9 := KO.out.at (i := 9) rfl
  have rc9 := KR.out.at (i := 9) rfl
  have rf9 := KR.out.frozen 9
  have ac10 := KA.out.at (i := 10) rfl
  have oc10 := KO.out.at (i := 10) rfl
  have rc10 := KR.out.at (i := 10) rfl
  have rf10 := KR.out.frozen 10
  have ac11 := KA.out.at (i := 11) rfl
  have oc11 := KO.out.at (i := 11) rfl
  have rc11 := KR.out.at (i := 11) rfl
  have rf11 := KR.out.frozen 11
  have ac12 := KA.out.at (i := 12) rfl
  have oc12 := KO.out.at (i := 12) rfl
  have of12 := KO.out.frozen 12
  have rc12 := KR.out.at (i := 12) rfl
  have rf12 := KR.out.frozen 12
  have KA := Lib.hid (KA.out.far (b' := w.heap.size + 1 + 1) (o := 12) (v := .slice A12 x.xGot.length c12) (by omega))
  have KR := Lib.hid (KR.out.far (b' := w.heap.size + 1 + 1) (o := 12) (v := .slice A12 x.xGot.length c12) (by omega))
  have KO := Lib.hid (KO.out.set (i := 12) (v := .slice A12 x.xGot.length c12) (by simp))
  have FR0 := Lib.hid (FR0.out.set (g := w.heap.size + 1 + 1) (o := 12) (.slice A12 x.xGot.length c12) (by simp))
  have FR1 := Lib.hid (FR1.out.set (g := w.heap.size + 1 + 1) (o := 12) (.slice A12 x.xGot.length c12) (by simp))
  have FR2 := Lib.hid (FR2.out.set (g := w.heap.size + 1 + 1) (o := 12) (.slice A12 x.xGot.length c12) (by simp))
  have FR3 := Lib.hid (FR3.out.set (g := w.heap.size + 1 + 1) (o := 12) (.slice A12 x.xGot.length c12) (by simp))
  have FR4 := Lib.hid (FR4.out.set (g := w.heap.size + 1 + 1) (o := 12) (.slice A12 x.xGot.length c12) (by simp))
  have HB := Lib.hid (HB.out.setCell (p := ⟨w.heap.size + 1 + 1, 12, none⟩) (by simp <;> omega) (.slice A12 x.xGot.length c12))
  have FR0 := Lib.hid (FR0.out.set (g := w.heap.size + 1) (o := 0) (.int .i64 x.xOut.xStreams) (by simp))
  have FR1 := Lib.hid (FR1.out.set (g := w.heap.size + 1) (o := 0) (.int .i64 x.xOut.xStreams) (by simp))
  have FR2 := Lib.hid (FR2.out.set (g := w.heap.size + 1) (o := 0) (.int .i64 x.xOut.xStreams) (by simp))
  have FR3 := Lib.hid (FR3.out.set (g := w.heap.size + 1) (o := 0) (.int .i64 x.xOut.xStreams) (by simp))
  have FR4 := Lib.hid (FR4.out.set (g := w.heap.size + 1) (o := 0) (.int .i64 x.xOut.xStreams) (by simp))
  have HB := Lib.hid (HB.out.setCell (p := ⟨w.heap.size + 1, 0, none⟩) (by simp <;> omega) (.int .i64 x.xOut.xStreams))
  have FR0 := Lib.hid (FR0.out.set (g := w.heap.size + 1) (o := 1) (.int .i64 x.xOut.xNext) (by simp))
  have FR1 := Lib.hid (FR1.out.set (g := w.heap.size + 1) (o := 1) (.int .i64 x.xOut.xNext) (by simp))
  have FR2 := Lib.hid (FR2.out.set (g := w.heap.size + 1) (o := 1) (.int .i64 x.xOut.xNext) (by simp))
  have FR3 := Lib.hid (FR3.out.set (g := w.heap.size + 1) (o := 1) (.int .i64 x.xOut.xNext) (by simp))
  have FR4 := Lib.hid (FR4.out.set (g := w.heap.size + 1) (o := 1) (.int .i64 x.xOut.xNext) (by simp))
  have HB := Lib.hid (HB.out.setCell (p := ⟨w.heap.size + 1, 1, none⟩) (by simp <;> omega) (.int .i64 x.xOut.xNext))
  have FR0 := Lib.hid (FR0.out.set (g := w.heap.size + 1) (o := 2) (.slice A2 x.xOut.xFlight.length c2) (by simp))
  have FR1 := Lib.hid (FR1.out.set (g := w.heap.size + 1) (o := 2) (.slice A2 x.xOut.xFlight.length c2) (by simp))
  have FR2 := Lib.hid (FR2.out.set (g := w.heap.size + 1) (o := 2) (.slice A2 x.xOut.xFlight.length c2) (by simp))
  have FR3 := Lib.hid (FR3.out.set (g := w.heap.size + 1) (o := 2) (.slice A2 x.xOut.xFlight.length c2) (by simp))
  have FR4 := Lib.hid (FR4.out.set (g := w.heap.size + 1) (o := 2) (.slice A2 x.xOut.xFlight.length c2) (by simp))
  have HB := Lib.hid (HB.out.setCell (p := ⟨w.heap.size + 1, 2, none⟩) (by simp <;> omega) (.slice A2 x.xOut.xFlight.length c2))
  have FR0 := Lib.hid (FR0.out.set (g := w.heap.size + 1) (o := 3) (.slice A3 x.xOut.xQueue.length c3) (by simp))
  have FR1 := Lib.hid (FR1.out.set (g := w.heap.size + 1) (o := 3) (.slice A3 x.xOut.xQueue.length c3) (by simp))
  have FR2 := Lib.hid (FR2.out.set (g := w.heap.size + 1) (o := 3) (.slice A3 x.xOut.xQueue.length c3) (by simp))
  have FR3 := Lib.hid (FR3.out.set (g := w.heap.size + 1) (o := 3) (.slice A3 x.xOut.xQueue.length c3) (by simp))
  have FR4 := Lib.hid (FR4.out.set (g := w.heap.size + 1) (o := 3) (.slice A3 x.xOut.xQueue.length c3) (by simp))
  have HB := Lib.hid (HB.out.setCell (p := ⟨w.heap.size + 1, 3, none⟩) (by simp <;> omega) (.slice A3 x.xOut.xQueue.length c3))
  have FR0 := Lib.hid (FR0.out.set (g := w.heap.size + 1) (o := 4) (.slice A4 x.xOut.xSsns.length c4) (by simp))
  have FR1 := Lib.hid (FR1.out.set (g := w.heap.size + 1) (o := 4) (.slice A4 x.xOut.xSsns.length c4) (by simp))
  have FR2 := Lib.hid (FR2.out.set (g := w.heap.size + 1) (o := 4) (.slice A4 x.xOut.xSsns.length c4) (by simp))
  have FR3 := Lib.hid (FR3.out.set (g := w.heap.size + 1) (o := 4) (.slice A4 x.xOut.xSsns.length c4) (by simp))
  have FR4 := Lib.hid (FR4.out.set (g := w.heap.size + 1) (o := 4) (.slice A4 x.xOut.xSsns.length c4) (by simp))
  have HB := Lib.hid (HB.out.setCell (p := ⟨w.heap.size + 1, 4, none⟩) (by simp <;> omega) (.slice A4 x.xOut.xSsns.length c4))
  have FR0 := Lib.hid (FR0.out.set (g := w.heap.size + 1) (o := 5) (.int .i64 x.xIn.xStreams) (by simp))
  have FR1 := Lib.hid (FR1.out.set (g := w.heap.size + 1) (o := 5) (.int .i64 x.xIn.xStreams) (by simp))
  have FR2 := Lib.hid (FR2.out.set (g := w.heap.size + 1) (o := 5) (.int .i64 x.xIn.xStreams) (by simp))
  have FR3 := Lib.hid (FR3.out.set (g := w.heap.size + 1) (o := 5) (.int .i64 x.xIn.xStreams) (by simp))
  have FR4 := Lib.hid (FR4.out.set (g := w.heap.size + 1) (o := 5) (.int .i64 x.xIn.xStreams) (by simp))
  have HB := Lib.hid (HB.out.setCell (p := ⟨w.heap.size + 1, 5, none⟩) (by simp <;> omega) (.int .i64 x.xIn.xStreams))
  have FR0 := Lib.hid (FR0.out.set (g := w.heap.size + 1) (o := 6) (.int .i64 x.xIn.xCum) (by simp))
  have FR1 := Lib.hid (FR1.out.set (g := w.heap.size + 1) (o := 6) (.int .i64 x.xIn.xCum) (by simp))
  have FR2 := Lib.hid (FR2.out.set (g := w.heap.size + 1) (o := 6) (.int .i64 x.xIn.xCum) (by simp))
  have FR3 := Lib.hid (FR3.out.set (g := w.heap.size + 1) (o := 6) (.int .i64 x.xIn.xCum) (by simp))
  have FR4 := Lib.hid (FR4.out.set (g := w.heap.size + 1) (o := 6) (.int .i64 x.xIn.xCum) (by simp))
  have HB := Lib.hid (HB.out.setCell (p := ⟨w.heap.size + 1, 6, none⟩) (by simp <;> omega) (.int .i64 x.xIn.xCum))
  have FR0 := Lib.hid (FR0.out.set (g := w.heap.size + 1) (o := 7) (.slice A7 x.xIn.xSeen.length c7) (by simp))
  have FR1 := Lib.hid (FR1.out.set (g := w.heap.size + 1) (o := 7) (.slice A7 x.xIn.xSeen.length c7) (by simp))
  have FR2 := Lib.hid (FR2.out.set (g := w.heap.size + 1) (o := 7) (.slice A7 x.xIn.xSeen.length c7) (by simp))
  have FR3 := Lib.hid (FR3.out.set (g := w.heap.size + 1) (o := 7) (.slice A7 x.xIn.xSeen.length c7) (by simp))
  have FR4 := Lib.hid (FR4.out.set (g := w.heap.size + 1) (o := 7) (.slice A7 x.xIn.xSeen.length c7) (by simp))
  have HB := Lib.hid (HB.out.setCell (p := ⟨w.heap.size + 1, 7, none⟩) (by simp <;> omega) (.slice A7 x.xIn.xSeen.length c7))
  have FR0 := Lib.hid (FR0.out.set (g := w.heap.size + 1) (o := 8) (.slice A8 x.xIn.xHave.length c8) (by simp))
  have FR1 := Lib.hid (FR1.out.set (g := w.heap.size + 1) (o := 8) (.slice A8 x.xIn.xHave.length c8) (by simp))
  have FR2 := Lib.hid (FR2.out.set (g := w.heap.size + 1) (o := 8) (.slice A8 x.xIn.xHave.length c8) (by simp))
  have FR3 := Lib.hid (FR3.out.set (g := w.heap.size + 1) (o := 8) (.slice A8 x.xIn.xHave.length c8) (by simp))
  have FR4 := Lib.hid (FR4.out.set (g := w.heap.size + 1) (o := 8) (.slice A8 x.xIn.xHave.length c8) (by simp))
  have HB := Lib.hid (HB.out.setCell (p := ⟨w.heap.size + 1, 8, none⟩) (by simp <;> omega) (.slice A8 x.xIn.xHave.length c8))
  have FR0 := Lib.hid (FR0.out.set (g := w.heap.size + 1) (o := 9) (.slice A9 x.xIn.xSsns.length c9) (by simp))
  have FR1 := Lib.hid (FR1.out.set (g := w.heap.size + 1) (o := 9) (.slice A9 x.xIn.xSsns.length c9) (by simp))
  have FR2 := Lib.hid (FR2.out.set (g := w.heap.size + 1) (o := 9) (.slice A9 x.xIn.xSsns.length c9) (by simp))
  have FR3 := Lib.hid (FR3.out.set (g := w.heap.size + 1) (o := 9) (.slice A9 x.xIn.xSsns.length c9) (by simp))
  have FR4 := Lib.hid (FR4.out.set (g := w.heap.size + 1) (o := 9) (.slice A9 x.xIn.xSsns.length c9) (by simp))
  have HB := Lib.hid (HB.out.setCell (p := ⟨w.heap.size + 1, 9, none⟩) (by simp <;> omega) (.slice A9 x.xIn.xSsns.length c9))
  have FR0 := Lib.hid (FR0.out.set (g := w.heap.size + 1) (o := 10) (.slice A10 x.xAir.length c10) (by simp))
  have FR1 := Lib.hid (FR1.out.set (g := w.heap.size + 1) (o := 10) (.slice A10 x.xAir.length c10) (by simp))
  have FR2 := Lib.hid (FR2.out.set (g := w.heap.size + 1) (o := 10) (.slice A10 x.xAir.length c10) (by simp))
  have FR3 := Lib.hid (FR3.out.set (g := w.heap.size + 1) (o := 10) (.slice A10 x.xAir.length c10) (by simp))
  have FR4 := Lib.hid (FR4.out.set (g := w.heap.size + 1) (o := 10) (.slice A10 x.xAir.length c10) (by simp))
  have HB := Lib.hid (HB.out.setCell (p := ⟨w.heap.size + 1, 10, none⟩) (by simp <;> omega) (.slice A10 x.xAir.length c10))
  have FR0 := Lib.hid (FR0.out.set (g := w.heap.size + 1) (o := 11) (.slice A11 x.xGiven.length c11) (by simp))
  have FR1 := Lib.hid (FR1.out.set (g := w.heap.size + 1) (o := 11) (.slice A11 x.xGiven.length c11) (by simp))
  have FR2 := Lib.hid (FR2.out.set (g := w.heap.size + 1) (o := 11) (.slice A11 x.xGiven.length c11) (by simp))
  have FR3 := Lib.hid (FR3.out.set (g := w.heap.size + 1) (o := 11) (.slice A11 x.xGiven.length c11) (by simp))
  have FR4 := Lib.hid (FR4.out.set (g := w.heap.size + 1) (o := 11) (.slice A11 x.xGiven.length c11) (by simp))
  have HB := Lib.hid (HB.out.setCell (p := ⟨w.heap.size + 1, 11, none⟩) (by simp <;> omega) (.slice A11 x.xGiven.length c11))
  have FR0 := Lib.hid (FR0.out.set (g := w.heap.size + 1) (o := 12) (.slice A12 x.xGot.length c12) (by simp))
  have FR1 := Lib.hid (FR1.out.set (g := w.heap.size + 1) (o := 12) (.slice A12 x.xGot.length c12) (by simp))
  have FR2 := Lib.hid (FR2.out.set (g := w.heap.size + 1) (o := 12) (.slice A12 x.xGot.length c12) (by simp))
  have FR3 := Lib.hid (FR3.out.set (g := w.heap.size + 1) (o := 12) (.slice A12 x.xGot.length c12) (by simp))
  have FR4 := Lib.hid (FR4.out.set (g := w.heap.size + 1) (o := 12) (.slice A12 x.xGot.length c12) (by simp))
  have HB := Lib.hid (HB.out.setCell (p := ⟨w.heap.size + 1, 12, none⟩) (by simp <;> omega) (.slice A12 x.xGot.length c12))
  clear KR
  go_wp2
  refine bodyPost_ret (v := .agg #[.int .i64 x.xOut.xStreams, .int .i64 x.xOut.xNext, .slice A2 x.xOut.xFlight.length c2, .slice A3 x.xOut.xQueue.length c3, .slice A4 x.xOut.xSsns.length c4, .int .i64 x.xIn.xStreams, .int .i64 x.xIn.xCum, .slice A7 x.xIn.xSeen.length c7, .slice A8 x.xIn.xHave.length c8, .slice A9 x.xIn.xSsns.length c9, .slice A10 x.xAir.length c10, .slice A11 x.xGiven.length c11, .slice A12 x.xGot.length c12]) (by simp [results, Try.results78, go_sem, rc0, rc1, rc2, rc3, rc4, rc5, rc6, rc7, rc8, rc9, rc10, rc11, rc12]) rfl ⟨[.int .i64 x.xOut.xStreams, .int .i64 x.xOut.xNext, .slice A2 x.xOut.xFlight.length c2, .slice A3 x.xOut.xQueue.length c3, .slice A4 x.xOut.xSsns.length c4, .int .i64 x.xIn.xStreams, .int .i64 x.xIn.xCum, .slice A7 x.xIn.xSeen.length c7, .slice A8 x.xIn.xHave.length c8, .slice A9 x.xIn.xSsns.length c9, .slice A10 x.xAir.length c10, .slice A11 x.xGiven.length c11, .slice A12 x.xGot.length c12], _, rfl, ⟨_, _, _, _, _, _, _, _, _, _, _, _, _, _, _, _, _, _, rfl, O2.out.keep ?_, O3.out.keep ?_, O4.out.keep ?_, O7.out.keep ?_, O8.out.keep ?_, O9.out.keep ?_, O10.out.keep ?_, O11.out.keep ?_, O12.out.keep ?_, rfl⟩, ?_, ?_⟩
  · exact (fun b hb => FR0.out.block b (O2.out.inside b hb) (by have h1 := (N0.out.2 b (by simp [hb])).1; simp only [List.mem_cons, List.not_mem_nil, or_false, not_or]; omega))
  · exact (fun b hb => FR0.out.block b (O3.out.inside b hb) (by have h1 := (N0.out.2 b (by simp [hb])).1; simp only [List.mem_cons, List.not_mem_nil, or_false, not_or]; omega))
  · exact (fun b hb => FR0.out.block b (O4.out.inside b hb) (by have h1 := (N0.out.2 b (by simp [hb])).1; simp only [List.mem_cons, List.not_mem_nil, or_false, not_or]; omega))
  · exact (fun b hb => FR1.out.block b (O7.out.inside b hb) (by have h1 := (N1.out.2 b (by simp [hb])).1; have h2 := S1.out; simp only [List.mem_cons, List.not_mem_nil, or_false, not_or]; omega))
  · exact (fun b hb => FR1.out.block b (O8.out.inside b hb) (by have h1 := (N1.out.2 b (by simp [hb])).1; have h2 := S1.out; simp only [List.mem_cons, List.not_mem_nil, or_false, not_or]; omega))
  · exact (fun b hb => FR1.out.block b (O9.out.inside b hb) (by have h1 := (N1.out.2 b (by simp [hb])).1; have h2 := S1.out; simp only [List.mem_cons, List.not_mem_nil, or_false, not_or]; omega))
  · exact (fun b hb => FR2.out.block b (O10.out.inside b hb) (by have h1 := (N2.out.2 b hb).1; have h2 := S2.out; simp only [List.mem_cons, List.not_mem_nil, or_false, not_or]; omega))
  · exact (fun b hb => FR3.out.block b (O11.out.inside b hb) (by have h1 := (N3.out.2 b hb).1; have h2 := S3.out; simp only [List.mem_cons, List.not_mem_nil, or_false, not_or]; omega))
  · exact (fun b hb => FR4.out.block b (O12.out.inside b hb) (by have h1 := (N4.out.2 b hb).1; have h2 := S4.out; simp only [List.mem_cons, List.not_mem_nil, or_false, not_or]; omega))
  · have h := ((((N0.out.app N1.out (S1.out) Y1.out).app N2.out (by have := S2.out; omega) Y2.out).app N3.out (by have := S3.out; omega) Y3.out).app N4.out (by have := S4.out; omega) Y4.out)
    try simp only [List.append_assoc] at h ⊢
    exact h.mono (by omega) (by simp only [size_set]; omega)
  · exact HB.out

set_option maxHeartbeats 2000000 in
theorem eqDatPipe_s (cs ds : List Value) (x : DDatPipe) (w : World) (h : FDatPipe w cs x) (k : FDatPipe w ds x) (hz : zDatPipe x ≤ 1048576) :
    Calls Try.prog 70 #[.agg cs.toArray, .agg ds.toArray] w fun e w' => e = .returned (.bool true) ∧ Below w.heap.size w w' := by
  obtain ⟨v2, v3, v4, v7, v8, v9, v10, v11, v12, rfl, h2, h3, h4, h7, h8, h9, h10, h11, h12⟩ := h
  obtain ⟨u2, u3, u4, u7, u8, u9, u10, u11, u12, rfl, k2, k3, k4, k7, k8, k9, k10, k11, k12⟩ := k
  simp only [zDatPipe] at hz
  have Hz := Lib.hid hz
  clear hz
  have KA := Lib.hid ((Blk.new (w := w) (b := w.heap.size) #[.int .i64 x.xOut.xStreams, .int .i64 x.xOut.xNext, v2, v3, v4, .int .i64 x.xIn.xStreams, .int .i64 x.xIn.xCum, v7, v8, v9, v10, v11, v12] 106 rfl).alloc (.cells #[.int .i64 x.xOut.xStreams, .int .i64 x.xOut.xNext, u2, u3, u4, .int .i64 x.xIn.xStreams, .int .i64 x.xIn.xCum, u7, u8, u9, u10, u11, u12] 106))
  have KB := Lib.hid (Blk.new (w := w.alloc (.cells #[.int .i64 x.xOut.xStreams, .int .i64 x.xOut.xNext, v2, v3, v4, .int .i64 x.xIn.xStreams, .int .i64 x.xIn.xCum, v7, v8, v9, v10, v11, v12] 106)) (b := w.heap.size + 1) #[.int .i64 x.xOut.xStreams, .int .i64 x.xOut.xNext, u2, u3, u4, .int .i64 x.xIn.xStreams, .int .i64 x.xIn.xCum, u7, u8, u9, u10, u11, u12] 106 (by simp))
  have HB := Lib.hid (below2 w (.cells #[.int .i64 x.xOut.xStreams, .int .i64 x.xOut.xNext, v2, v3, v4, .int .i64 x.xIn.xStreams, .int .i64 x.xIn.xCum, v7, v8, v9, v10, v11, v12] 106) (.cells #[.int .i64 x.xOut.xStreams, .int .i64 x.xOut.xNext, u2, u3, u4, .int .i64 x.xIn.xStreams, .int .i64 x.xIn.xCum, u7, u8, u9, u10, u11, u12] 106))
  have H2 := Lib.hid h2
  have K2 := Lib.hid k2
  have H3 := Lib.hid h3
  have K3 := Lib.hid k3
  have H4 := Lib.hid h4
  have K4 := Lib.hid k4
  have H7 := Lib.hid h7
  have K7 := Lib.hid k7
  have H8 := Lib.hid h8
  have K8 := Lib.hid k8
  have H9 := Lib.hid h9
  have K9 := Lib.hid k9
  have H10 := Lib.hid h10
  have K10 := Lib.hid k10
  have H11 := Lib.hid h11
  have K11 := Lib.hid k11
  have H12 := Lib.hid h12
  have K12 := Lib.hid k12
  clear h2 k2 h3 k3 h4 k4 h7 k7 h8 k8 h9 k9 h10 k10 h11 k11 h12 k12
  go_enter Try.func70, Try.ntmps70
  go_wp2_with fail
  refine (eqDatOut_s _ _ x.xOut _ ⟨_, _, _, rfl, (H2.out.below (by exact HB.out)), (H3.out.below (by exact HB.out)), (H4.out.below (by exact HB.out))⟩ ⟨_, _, _, rfl, (K2.out.below (by exact HB.out)), (K3.out.below (by exact HB.out)), (K4.out.below (by exact HB.out))⟩ (by have := Hz.out; omega)).mono ?_
  rintro e w1 ⟨rfl, b1⟩
  have KA := Lib.hid (KA.out.keep b1)
  have KB := Lib.hid (KB.out.keep b1)
  have HB := Lib.hid (HB.out.trans (b1.mono HB.out.size))
  clear b1
  have ac5 := KA.out.at (i := 5) rfl
  have bc5 := KB.out.at (i := 5) rfl
  have ac6 := KA.out.at (i := 6) rfl
  have bc6 := KB.out.at (i := 6) rfl
  have ac7 := KA.out.at (i := 7) rfl
  have bc7 := KB.out.at (i := 7) rfl
  have ac8 := KA.out.at (i := 8) rfl
  have bc8 := KB.out.at (i := 8) rfl
  have ac9 := KA.out.at (i := 9) rfl
  have bc9 := KB.out.at (i := 9) rfl
  have ac10 := KA.out.at (i := 10) rfl
  have bc10 := KB.out.at (i := 10) rfl
  have ac11 := KA.out.at (i := 11) rfl
  have bc11 := KB.out.at (i := 11) rfl
  have ac12 := KA.out.at (i := 12) rfl
  have bc12 := KB.out.at (i := 12) rfl
  go_wp2_with fail
  refine (eqDatIn_s _ _ x.xIn _ ⟨_, _, _, rfl, (H7.out.below (by exact HB.out)), (H8.out.below (by exact HB.out)), (H9.out.below (by exact HB.out))⟩ ⟨_, _, _, rfl, (K7.out.below (by exact HB.out)), (K8.out.below (by exact HB.out)), (K9.out.below (by exact HB.out))⟩ (by have := Hz.out; omega)).mono ?_
  rintro e w2 ⟨rfl, b2⟩
  clear ac5 bc5 ac6 bc6 ac7 bc7 ac8 bc8 ac9 bc9 ac10 bc10 ac11 bc11 ac12 bc12
  have KA := Lib.hid (KA.out.keep b2)
  have KB := Lib.hid (KB.out.keep b2)
  have HB := Lib.hid (HB.out.trans (b2.mono HB.out.size))
  clear b2
  have ac10 := KA.out.at (i := 10) rfl
  have bc10 := KB.out.at (i := 10) rfl
  have ac11 := KA.out.at (i := 11) rfl
  have bc11 := KB.out.at (i := 11) rfl
  have ac12 := KA.out.at (i := 12) rfl
  have bc12 := KB.out.at (i := 12) rfl
  go_wp2_with fail
  refine (eqDatAirS_s _ _ x.xAir _ (H10.out.below (by exact HB.out)) (K10.out.below (by exact HB.out)) (by have := Hz.out; omega)).mono ?_
  rintro e w3 ⟨rfl, b3⟩
  clear ac10 bc10 ac11 bc11 ac12 bc12
  have KA := Lib.hid (KA.out.keep b3)
  have KB := Lib.hid (KB.out.keep b3)
  have HB := Lib.hid (HB.out.trans (b3.mono HB.out.size))
  clear b3
  have ac11 := KA.out.at (i := 11) rfl
  have bc11 := KB.out.at (i := 11) rfl
  have ac12 := KA.out.at (i := 12) rfl
  have bc12 := KB.out.at (i := 12) rfl
  go_wp2_with fail
  refine (eqDatUnitS_s _ _ x.xGiven _ (H11.out.below (by exact HB.out)) (K11.out.below (by exact HB.out)) (by have := Hz.out; omega)).mono ?_
  rintro e w4 ⟨rfl, b4⟩
  clear ac11 bc11 ac12 bc12
  have KA := Lib.hid (KA.out.keep b4)
  have KB := Lib.hid (KB.out.keep b4)
  have HB := Lib.hid (HB.out.trans (b4.mono HB.out.size))
  clear b4
  have ac12 := KA.out.at (i := 12) rfl
  have bc12 := KB.out.at (i := 12) rfl
  go_wp2_with fail
  refine (eqDatUnitS_s _ _ x.xGot _ (H12.out.below (by exact HB.out)) (K12.out.below (by exact HB.out)) (by have := Hz.out; omega)).mono ?_
  rintro e w5 ⟨rfl, b5⟩
  clear ac12 bc12
  have KA := Lib.hid (KA.out.keep b5)
  have KB := Lib.hid (KB.out.keep b5)
  have HB := Lib.hid (HB.out.trans (b5.mono HB.out.size))
  clear b5
  go_wp2
  go_ret
  exact ⟨rfl, HB.out⟩

theorem cells_DatPipe : Try.prog.cellsOf 118 = 13 := by kernel_rfl
set_option maxRecDepth 100000 in
theorem read_DatPipe {H : Type} {enc : TypeId × Value → H} {w : World} {base : Nat} {spare : Nat → Bool} {held : Bool} (n : Nat) (cs : List Value) (y : DataW H × List MemPlace) (hcs : cs.length = 13)
    (h : DataW.trod enc Try.prog w base spare held n 118 cs = some y) : ∃ x : DDatPipe, FDatPipe w cs x := by
  obtain ⟨ys, n', _, _, _, hxl, hg⟩ := DataW.trod_struct Try.underlying118 h
  match cs, hcs with
  | [c0, c1, c2, c3, c4, c5, c6, c7, c8, c9, c10, c11, c12], _ =>
    match ys, hxl with
    | [y0, y1, y2, y3, y4], _ =>
      have h0 : DataW.trod enc Try.prog w base spare held n' 78 (([c0, c1, c2, c3, c4, c5, c6, c7, c8, c9, c10, c11, c12].drop 0).take (Try.prog.cellsOf 78)) = some y0 := hg 0 _ rfl
      have h1 : DataW.trod enc Try.prog w base spare held n' 32 (([c0, c1, c2, c3, c4, c5, c6, c7, c8, c9, c10, c11, c12].drop 5).take (Try.prog.cellsOf 32)) = some y1 := hg 1 _ rfl
      have h2 : DataW.trod enc Try.prog w base spare held n' 116 (([c0, c1, c2, c3, c4, c5, c6, c7, c8, c9, c10, c11, c12].drop 10).take (Try.prog.cellsOf 116)) = some y2 := hg 2 _ rfl
      have h3 : DataW.trod enc Try.prog w base spare held n' 76 (([c0, c1, c2, c3, c4, c5, c6, c7, c8, c9, c10, c11, c12].drop 11).take (Try.prog.cellsOf 76)) = some y3 := hg 3 _ rfl
      have h4 : DataW.trod enc Try.prog w base spare held n' 76 (([c0, c1, c2, c3, c4, c5, c6, c7, c8, c9, c10, c11, c12].drop 12).take (Try.prog.cellsOf 76)) = some y4 := hg 4 _ rfl
      simp only [cells_DatOut, cells_DatIn, cells_DatAirS, cells_DatUnitS, List.drop_zero, List.drop_succ_cons, List.take_succ_cons, List.take_zero] at h0 h1 h2 h3 h4
      obtain ⟨a0, e0⟩ := read_DatOut _ _ _ rfl h0
      obtain ⟨t2, t3, t4, e0, g_2, g_3, g_4⟩ := e0
      simp only [List.cons.injEq, and_true] at e0
      obtain ⟨rfl, rfl, rfl, rfl, rfl⟩ := e0
      obtain ⟨a1, e1⟩ := read_DatIn _ _ _ rfl h1
      obtain ⟨t7, t8, t9, e1, g_7, g_8, g_9⟩ := e1
      simp only [List.cons.injEq, and_true] at e1
      obtain ⟨rfl, rfl, rfl, rfl, rfl⟩ := e1
      obtain ⟨a2, g2⟩ := open_rds Try.underlying116 cells_DatAir (fun n cs y hc h => read_DatAir n cs y hc h) h2
      obtain ⟨a3, g3⟩ := open_rds Try.underlying76 cells_DatUnit (fun n cs y hc h => read_DatUnit n cs y hc h) h3
      obtain ⟨a4, g4⟩ := open_rds Try.underlying76 cells_DatUnit (fun n cs y hc h => read_DatUnit n cs y hc h) h4
      exact ⟨⟨a0, a1, a2, a3, a4⟩, _, _, _, _, _, _, _, _, _, rfl, g_2, g_3, g_4, g_7, g_8, g_9, g2, g3, g4⟩
end Go.Proofs.Ytcflkcjicaieeaa
