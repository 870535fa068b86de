/-
  Words and the laws' helpers of DatSent and of lists of it. (Written by wip/tools/gentype.py.)
-/
import Derived.Test.YthdjjgbjemaabaaKin
import Derived.Test.YthdjjgbjemaabaaTyDatPiece
namespace Go.Proofs.Ythdjjgbjemaabaa
open Go.ChangeShapes Go.WideShapes Go.ChangeAt Go.RowKit
set_option linter.unusedVariables false
set_option linter.unusedSimpArgs false

structure DDatSent where
  xMark : Int
  xPiece : DDatPiece
  xTimes : Int
  xAcked : Bool
def FDatSent (w : World) (cs : List Value) (x : DDatSent) : Prop := ∃ v7 : Value, cs = [.int .i64 x.xMark, .int .i64 x.xPiece.xTsn, .int .i64 x.xPiece.xStream, .int .i64 x.xPiece.xSsn, .bool x.xPiece.xFirst, .bool x.xPiece.xLast, .bool x.xPiece.xLoose, v7, .int .i64 x.xTimes, .bool x.xAcked] ∧ RdB w v7 x.xPiece.xBody
def EDatSent (w : World) (f : List Nat) (cs : List Value) (x : DDatSent) : Prop := ∃ (v7 : Value) (f7 : List Nat), cs = [.int .i64 x.xMark, .int .i64 x.xPiece.xTsn, .int .i64 x.xPiece.xStream, .int .i64 x.xPiece.xSsn, .bool x.xPiece.xFirst, .bool x.xPiece.xLast, .bool x.xPiece.xLoose, v7, .int .i64 x.xTimes, .bool x.xAcked] ∧ OwBy w f7 v7 x.xPiece.xBody ∧ f = f7
theorem FDatSent.below {w w' : World} {cs : List Value} {x : DDatSent} (h : FDatSent w cs x) (hb : Below w.heap.size w w') : FDatSent w' cs x := by
  obtain ⟨v7, rfl, h7⟩ := h
  exact ⟨v7, rfl, h7.below hb⟩
theorem EDatSent.framed : Framed EDatSent := by
  rintro w w' f cs x ⟨v7, f7, rfl, h7, rfl⟩ hb
  exact ⟨_, _, rfl, h7.keep (fun b h => hb b (by simp [h])), rfl⟩
theorem EDatSent.inside : Inside EDatSent := by
  rintro w f cs x ⟨v7, f7, rfl, h7, rfl⟩ b hb
  exact h7.inside b hb
theorem EDatSent.rd {w : World} {f : List Nat} {cs : List Value} {x : DDatSent} (h : EDatSent w f cs x) : FDatSent w cs x := by
  obtain ⟨v7, f7, rfl, h7, rfl⟩ := h
  exact ⟨v7, rfl, h7.rd⟩
abbrev RdDatSentS (w : World) (v : Value) (xs : List DDatSent) : Prop := RdS 10 FDatSent w v xs
def OwDatSentS (w : World) (f : List Nat) (v : Value) (xs : List DDatSent) : Prop := OwL 287 10 EDatSent w f v xs
theorem RdDatSentS.below {w w' : World} {v : Value} {xs : List DDatSent} (h : RdDatSentS w v xs) (hb : Below w.heap.size w w') : RdDatSentS w' v xs := RdS.below (fun _ _ h => h.below hb) h hb
theorem RdDatSentS.slice {w : World} {v : Value} {xs : List DDatSent} (h : RdDatSentS w v xs) : ∃ A c, v = .slice A xs.length c := RdS.slice h
theorem OwDatSentS.keep {w w' : World} {f : List Nat} {v : Value} {xs : List DDatSent} (h : OwDatSentS w f v xs) (hb : ∀ b ∈ f, w'.heap[b]? = w.heap[b]?) : OwDatSentS w' f v xs := OwL.keep EDatSent.framed h hb
theorem OwDatSentS.inside {w : World} {f : List Nat} {v : Value} {xs : List DDatSent} (h : OwDatSentS w f v xs) : ∀ b ∈ f, b < w.heap.size := OwL.inside EDatSent.inside h
theorem OwDatSentS.rd {w : World} {f : List Nat} {v : Value} {xs : List DDatSent} (h : OwDatSentS w f v xs) : RdDatSentS w v xs := OwL.rd (fun _ _ _ h => h.rd) h
def zDatSent (x : DDatSent) : Nat := zDatPiece x.xPiece

set_option maxHeartbeats 1000000 in
theorem szDatSent_z (cs : List Value) (x : DDatSent) (left : Int) (w : World) (h : FDatSent w cs x) (hl : 0 ≤ left ∧ left ≤ 1048576) :
    Calls Try.prog 252 #[.agg cs.toArray, .int .i64 left] w fun e w' => e = .returned (.int .i64 (szR left (zDatSent x))) ∧ Below w.heap.size w w' := by
  obtain ⟨v7, rfl, h7⟩ := h
  have Hz := Lib.hid (show zDatSent x = zDatPiece x.xPiece from rfl)
  generalize zDatSent x = zx at Hz ⊢
  have K := Lib.hid (Blk.new (w := w) (b := w.heap.size) #[.int .i64 x.xMark, .int .i64 x.xPiece.xTsn, .int .i64 x.xPiece.xStream, .int .i64 x.xPiece.xSsn, .bool x.xPiece.xFirst, .bool x.xPiece.xLast, .bool x.xPiece.xLoose, v7, .int .i64 x.xTimes, .bool x.xAcked] 285 rfl)
  have HB := Lib.hid ((Below.refl w.heap.size w).alloc (Nat.le_refl _) (.cells #[.int .i64 x.xMark, .int .i64 x.xPiece.xTsn, .int .i64 x.xPiece.xStream, .int .i64 x.xPiece.xSsn, .bool x.xPiece.xFirst, .bool x.xPiece.xLast, .bool x.xPiece.xLoose, v7, .int .i64 x.xTimes, .bool x.xAcked] 285))
  have H7 := Lib.hid h7
  clear h7
  go_enter Try.func252, Try.ntmps252
  go_wp2_with fail
  refine (szDatPiece_z _ x.xPiece _ _ ⟨_, rfl, (H7.out.below HB.out)⟩ ⟨by omega, by omega⟩).mono ?_
  rintro e w1 ⟨rfl, b1⟩
  have K := Lib.hid (K.out.keep b1)
  have HB := Lib.hid (HB.out.trans (b1.mono HB.out.size))
  clear b1
  have hr0 := szR_cases left (zDatPiece x.xPiece) (by omega)
  generalize szR left (zDatPiece x.xPiece) = r0 at *
  rcases hr0 with ⟨rfl, hr0⟩ | ⟨hr0, hs0, ht0⟩
  · have Q := Lib.hid hr0
    go_wp2
    go_ret
    refine ⟨retI ?_, HB.out⟩
    have hz := Hz.out
    have hq := Q.out
    rw [szR_no (by omega)]
  have hz := Hz.out
  have Hf := Lib.hid (show szR left zx = r0 by rw [szR_yes (by omega)]; omega)
  clear hz
  go_wp2
  go_ret
  exact ⟨retI Hf.out.symm, HB.out⟩

set_option maxRecDepth 100000 in
set_option maxHeartbeats 2000000 in
theorem toDatSent_n (cs : List Value) (x : DDatSent) (w : World) (h : FDatSent w cs x) (hz : zDatSent x ≤ 1048576) :
    Calls Try.prog 255 #[.agg cs.toArray] w fun e w' => ∃ cs' f, e = .returned (.agg cs'.toArray) ∧ EDatSent w' f cs' x ∧ Nw w.heap.size w'.heap.size f ∧ Below w.heap.size w w' := by
  obtain ⟨v7, rfl, h7⟩ := h
  simp only [zDatSent] at hz
  have H7 := Lib.hid h7
  clear h7
  have Hz := Lib.hid hz
  clear hz
  have KA := Lib.hid (((Blk.new (w := w) (b := w.heap.size) #[.int .i64 x.xMark, .int .i64 x.xPiece.xTsn, .int .i64 x.xPiece.xStream, .int .i64 x.xPiece.xSsn, .bool x.xPiece.xFirst, .bool x.xPiece.xLast, .bool x.xPiece.xLoose, v7, .int .i64 x.xTimes, .bool x.xAcked] 285 rfl).alloc (.cells #[.int .i64 0, .int .i64 0, .int .i64 0, .int .i64 0, .bool false, .bool false, .bool false, .slice none 0 0, .int .i64 0, .bool false] 287)).alloc (.cells #[.int .i64 x.xMark, .int .i64 0, .int .i64 0, .int .i64 0, .bool false, .bool false, .bool false, .slice none 0 0, .int .i64 0, .bool false] 287))
  have KR := Lib.hid ((Blk.new (w := w.alloc (.cells #[.int .i64 x.xMark, .int .i64 x.xPiece.xTsn, .int .i64 x.xPiece.xStream, .int .i64 x.xPiece.xSsn, .bool x.xPiece.xFirst, .bool x.xPiece.xLast, .bool x.xPiece.xLoose, v7, .int .i64 x.xTimes, .bool x.xAcked] 285)) (b := w.heap.size + 1) #[.int .i64 0, .int .i64 0, .int .i64 0, .int .i64 0, .bool false, .bool false, .bool false, .slice none 0 0, .int .i64 0, .bool false] 287 (by simp)).alloc (.cells #[.int .i64 x.xMark, .int .i64 0, .int .i64 0, .int .i64 0, .bool false, .bool false, .bool false, .slice none 0 0, .int .i64 0, .bool false] 287))
  have KO := Lib.hid (Blk.new (w := (w.alloc (.cells #[.int .i64 x.xMark, .int .i64 x.xPiece.xTsn, .int .i64 x.xPiece.xStream, .int .i64 x.xPiece.xSsn, .bool x.xPiece.xFirst, .bool x.xPiece.xLast, .bool x.xPiece.xLoose, v7, .int .i64 x.xTimes, .bool x.xAcked] 285)).alloc (.cells #[.int .i64 0, .int .i64 0, .int .i64 0, .int .i64 0, .bool false, .bool false, .bool false, .slice none 0 0, .int .i64 0, .bool false] 287)) (b := w.heap.size + 1 + 1) #[.int .i64 x.xMark, .int .i64 0, .int .i64 0, .int .i64 0, .bool false, .bool false, .bool false, .slice none 0 0, .int .i64 0, .bool false] 287 (by simp))
  have HB := Lib.hid (below3 w (.cells #[.int .i64 x.xMark, .int .i64 x.xPiece.xTsn, .int .i64 x.xPiece.xStream, .int .i64 x.xPiece.xSsn, .bool x.xPiece.xFirst, .bool x.xPiece.xLast, .bool x.xPiece.xLoose, v7, .int .i64 x.xTimes, .bool x.xAcked] 285) (.cells #[.int .i64 0, .int .i64 0, .int .i64 0, .int .i64 0, .bool false, .bool false, .bool false, .slice none 0 0, .int .i64 0, .bool false] 287) (.cells #[.int .i64 x.xMark, .int .i64 0, .int .i64 0, .int .i64 0, .bool false, .bool false, .bool false, .slice none 0 0, .int .i64 0, .bool false] 287))
  have HS : w.heap.size + 3 ≤ (((w.alloc (.cells #[.int .i64 x.xMark, .int .i64 x.xPiece.xTsn, .int .i64 x.xPiece.xStream, .int .i64 x.xPiece.xSsn, .bool x.xPiece.xFirst, .bool x.xPiece.xLast, .bool x.xPiece.xLoose, v7, .int .i64 x.xTimes, .bool x.xAcked] 285)).alloc (.cells #[.int .i64 0, .int .i64 0, .int .i64 0, .int .i64 0, .bool false, .bool false, .bool false, .slice none 0 0, .int .i64 0, .bool false] 287)).alloc (.cells #[.int .i64 x.xMark, .int .i64 0, .int .i64 0, .int .i64 0, .bool false, .bool false, .bool false, .slice none 0 0, .int .i64 0, .bool false] 287)).heap.size := by simp
  go_enter Try.func255, Try.ntmps255
  go_wp2_with fail
  refine (toDatPiece_n _ x.xPiece _ ⟨_, rfl, (H7.out.below (by exact HB.out))⟩ (by have := Hz.out; omega)).mono ?_
  rintro e w1 ⟨cs0, g0s, rfl, ⟨u7, g7, rfl, o7, rfl⟩, ns0, b1⟩
  obtain ⟨A7, c7, rfl⟩ := o7.rd.slice
  have KA := Lib.hid (KA.out.keep b1)
  have KR := Lib.hid (KR.out.keep b1)
  have KO := Lib.hid (KO.out.keep b1)
  have HS : w.heap.size + 3 ≤ w1.heap.size := Nat.le_trans HS b1.size
  have S1 := Lib.hid HS
  have FR0 := Lib.hid (FrL.refl [w.heap.size + 1, w.heap.size + 1 + 1] w1)
  have HB := Lib.hid (HB.out.trans (b1.mono HB.out.size))
  have O7 := Lib.hid o7
  clear o7
  have N0 := Lib.hid (ns0.mono (lo' := w.heap.size + 3) (by simp) (Nat.le_refl _))
  clear ns0 b1
  have ac0 := KA.out.at (i := 0) rfl
  have oc0 := KO.out.at (i := 0) rfl
  have rc0 := KR.out.at (i := 0) rfl
  have rf0 := KR.out.frozen 0
  have ac1 := KA.out.at (i := 1) rfl
  have oc1 := KO.out.at (i := 1) rfl
  have of1 := KO.out.frozen 1
  have rc1 := KR.out.at (i := 1) rfl
  have rf1 := KR.out.frozen 1
  have ac2 := KA.out.at (i := 2) rfl
  have oc2 := KO.out.at (i := 2) rfl
  have of2 := KO.out.frozen 2
  have rc2 := KR.out.at (i := 2) rfl
  have rf2 := KR.out.frozen 2
  have ac3 := KA.out.at (i := 3) rfl
  have oc3 := KO.out.at (i := 3) rfl
  have of3 := KO.out.frozen 3
  have rc3 := KR.out.at (i := 3) rfl
  have rf3 := KR.out.frozen 3
  have ac4 := KA.out.at (i := 4) rfl
  have oc4 := KO.out.at (i := 4) rfl
  have of4 := KO.out.frozen 4
  have rc4 := KR.out.at (i := 4) rfl
  have rf4 := KR.out.frozen 4
  have ac5 := KA.out.at (i := 5) rfl
  have oc5 := KO.out.at (i := 5) rfl
  have of5 := KO.out.frozen 5
  have rc5 := KR.out.at (i := 5) rfl
  have rf5 := KR.out.frozen 5
  have ac6 := KA.out.at (i := 6) rfl
  have oc6 := KO.out.at (i := 6) rfl
  have of6 := KO.out.frozen 6
  have rc6 := KR.out.at (i := 6) rfl
  have rf6 := KR.out.frozen 6
  have ac7 := KA.out.at (i := 7) rfl
  have oc7 := KO.out.at (i := 7) rfl
  have of7 := KO.out.frozen 7
  have rc7 := KR.out.at (i := 7) rfl
  have rf7 := KR.out.frozen 7
  have ac8 := KA.out.at (i := 8) rfl
  have oc8 := KO.out.at (i := 8) rfl
  have of8 := KO.out.frozen 8
  have rc8 := KR.out.at (i := 8) rfl
  have rf8 := KR.out.frozen 8
  have ac9 := KA.out.at (i := 9) rfl
  have oc9 := KO.out.at (i := 9) rfl
  have of9 := KO.out.frozen 9
  have rc9 := KR.out.at (i := 9) rfl
  have rf9 := KR.out.frozen 9
  have KA := Lib.hid (KA.out.far (b' := w.heap.size + 1 + 1) (o := 1) (v := .int .i64 x.xPiece.xTsn) (by omega))
  have KR := Lib.hid (KR.out.far (b' := w.heap.size + 1 + 1) (o := 1) (v := .int .i64 x.xPiece.xTsn) (by omega))
  have KO := Lib.hid (KO.out.set (i := 1) (v := .int .i64 x.xPiece.xTsn) (by simp))
  have FR0 := Lib.hid (FR0.out.set (g := w.heap.size + 1 + 1) (o := 1) (.int .i64 x.xPiece.xTsn) (by simp))
  have HB := Lib.hid (HB.out.setCell (p := ⟨w.heap.size + 1 + 1, 1, none⟩) (by simp <;> omega) (.int .i64 x.xPiece.xTsn))
  have KA := Lib.hid (KA.out.far (b' := w.heap.size + 1 + 1) (o := 2) (v := .int .i64 x.xPiece.xStream) (by omega))
  have KR := Lib.hid (KR.out.far (b' := w.heap.size + 1 + 1) (o := 2) (v := .int .i64 x.xPiece.xStream) (by omega))
  have KO := Lib.hid (KO.out.set (i := 2) (v := .int .i64 x.xPiece.xStream) (by simp))
  have FR0 := Lib.hid (FR0.out.set (g := w.heap.size + 1 + 1) (o := 2) (.int .i64 x.xPiece.xStream) (by simp))
  have HB := Lib.hid (HB.out.setCell (p := ⟨w.heap.size + 1 + 1, 2, none⟩) (by simp <;> omega) (.int .i64 x.xPiece.xStream))
  have KA := Lib.hid (KA.out.far (b' := w.heap.size + 1 + 1) (o := 3) (v := .int .i64 x.xPiece.xSsn) (by omega))
  have KR := Lib.hid (KR.out.far (b' := w.heap.size + 1 + 1) (o := 3) (v := .int .i64 x.xPiece.xSsn) (by omega))
  have KO := Lib.hid (KO.out.set (i := 3) (v := .int .i64 x.xPiece.xSsn) (by simp))
  have FR0 := Lib.hid (FR0.out.set (g := w.heap.size + 1 + 1) (o := 3) (.int .i64 x.xPiece.xSsn) (by simp))
  have HB := Lib.hid (HB.out.setCell (p := ⟨w.heap.size + 1 + 1, 3, none⟩) (by simp <;> omega) (.int .i64 x.xPiece.xSsn))
  have KA := Lib.hid (KA.out.far (b' := w.heap.size + 1 + 1) (o := 4) (v := .bool x.xPiece.xFirst) (by omega))
  have KR := Lib.hid (KR.out.far (b' := w.heap.size + 1 + 1) (o := 4) (v := .bool x.xPiece.xFirst) (by omega))
  have KO := Lib.hid (KO.out.set (i := 4) (v := .bool x.xPiece.xFirst) (by simp))
  have FR0 := Lib.hid (FR0.out.set (g := w.heap.size + 1 + 1) (o := 4) (.bool x.xPiece.xFirst) (by simp))
  have HB := Lib.hid (HB.out.setCell (p := ⟨w.heap.size + 1 + 1, 4, none⟩) (by simp <;> omega) (.bool x.xPiece.xFirst))
  have KA := Lib.hid (KA.out.far (b' := w.heap.size + 1 + 1) (o := 5) (v := .bool x.xPiece.xLast) (by omega))
  have KR := Lib.hid (KR.out.far (b' := w.heap.size + 1 + 1) (o := 5) (v := .bool x.xPiece.xLast) (by omega))
  have KO := Lib.hid (KO.out.set (i := 5) (v := .bool x.xPiece.xLast) (by simp))
  have FR0 := Lib.hid (FR0.out.set (g := w.heap.size + 1 + 1) (o := 5) (.bool x.xPiece.xLast) (by simp))
  have HB := Lib.hid (HB.out.setCell (p := ⟨w.heap.size + 1 + 1, 5, none⟩) (by simp <;> omega) (.bool x.xPiece.xLast))
  have KA := Lib.hid (KA.out.far (b' := w.heap.size + 1 + 1) (o := 6) (v := .bool x.xPiece.xLoose) (by omega))
  have KR := Lib.hid (KR.out.far (b' := w.heap.size + 1 + 1) (o := 6) (v := .bool x.xPiece.xLoose) (by omega))
  have KO := Lib.hid (KO.out.set (i := 6) (v := .bool x.xPiece.xLoose) (by simp))
  have FR0 := Lib.hid (FR0.out.set (g := w.heap.size + 1 + 1) (o := 6) (.bool x.xPiece.xLoose) (by simp))
  have HB := Lib.hid (HB.out.setCell (p := ⟨w.heap.size + 1 + 1, 6, none⟩) (by simp <;> omega) (.bool x.xPiece.xLoose))
  have KA := Lib.hid (KA.out.far (b' := w.heap.size + 1 + 1) (o := 7) (v := .slice A7 x.xPiece.xBody.length c7) (by omega))
  have KR := Lib.hid (KR.out.far (b' := w.heap.size + 1 + 1) (o := 7) (v := .slice A7 x.xPiece.xBody.length c7) (by omega))
  have KO := Lib.hid (KO.out.set (i := 7) (v := .slice A7 x.xPiece.xBody.length c7) (by simp))
  have FR0 := Lib.hid (FR0.out.set (g := w.heap.size + 1 + 1) (o := 7) (.slice A7 x.xPiece.xBody.length c7) (by simp))
  have HB := Lib.hid (HB.out.setCell (p := ⟨w.heap.size + 1 + 1, 7, none⟩) (by simp <;> omega) (.slice A7 x.xPiece.xBody.length c7))
  have KA := Lib.hid (KA.out.far (b' := w.heap.size + 1 + 1) (o := 8) (v := .int .i64 x.xTimes) (by omega))
  have KR := Lib.hid (KR.out.far (b' := w.heap.size + 1 + 1) (o := 8) (v := .int .i64 x.xTimes) (by omega))
  have KO := Lib.hid (KO.out.set (i := 8) (v := .int .i64 x.xTimes) (by simp))
  have FR0 := Lib.hid (FR0.out.set (g := w.heap.size + 1 + 1) (o := 8) (.int .i64 x.xTimes) (by simp))
  have HB := Lib.hid (HB.out.setCell (p := ⟨w.heap.size + 1 + 1, 8, none⟩) (by simp <;> omega) (.int .i64 x.xTimes))
  have KA := Lib.hid (KA.out.far (b' := w.heap.size + 1 + 1) (o := 9) (v := .bool x.xAcked) (by omega))
  have KR := Lib.hid (KR.out.far (b' := w.heap.size + 1 + 1) (o := 9) (v := .bool x.xAcked) (by omega))
  have KO := Lib.hid (KO.out.set (i := 9) (v := .bool x.xAcked) (by simp))
  have FR0 := Lib.hid (FR0.out.set (g := w.heap.size + 1 + 1) (o := 9) (.bool x.xAcked) (by simp))
  have HB := Lib.hid (HB.out.setCell (p := ⟨w.heap.size + 1 + 1, 9, none⟩) (by simp <;> omega) (.bool x.xAcked))
  have FR0 := Lib.hid (FR0.out.set (g := w.heap.size + 1) (o := 0) (.int .i64 x.xMark) (by simp))
  have HB := Lib.hid (HB.out.setCell (p := ⟨w.heap.size + 1, 0, none⟩) (by simp <;> omega) (.int .i64 x.xMark))
  have FR0 := Lib.hid (FR0.out.set (g := w.heap.size + 1) (o := 1) (.int .i64 x.xPiece.xTsn) (by simp))
  have HB := Lib.hid (HB.out.setCell (p := ⟨w.heap.size + 1, 1, none⟩) (by simp <;> omega) (.int .i64 x.xPiece.xTsn))
  have FR0 := Lib.hid (FR0.out.set (g := w.heap.size + 1) (o := 2) (.int .i64 x.xPiece.xStream) (by simp))
  have HB := Lib.hid (HB.out.setCell (p := ⟨w.heap.size + 1, 2, none⟩) (by simp <;> omega) (.int .i64 x.xPiece.xStream))
  have FR0 := Lib.hid (FR0.out.set (g := w.heap.size + 1) (o := 3) (.int .i64 x.xPiece.xSsn) (by simp))
  have HB := Lib.hid (HB.out.setCell (p := ⟨w.heap.size + 1, 3, none⟩) (by simp <;> omega) (.int .i64 x.xPiece.xSsn))
  have FR0 := Lib.hid (FR0.out.set (g := w.heap.size + 1) (o := 4) (.bool x.xPiece.xFirst) (by simp))
  have HB := Lib.hid (HB.out.setCell (p := ⟨w.heap.size + 1, 4, none⟩) (by simp <;> omega) (.bool x.xPiece.xFirst))
  have FR0 := Lib.hid (FR0.out.set (g := w.heap.size + 1) (o := 5) (.bool x.xPiece.xLast) (by simp))
  have HB := Lib.hid (HB.out.setCell (p := ⟨w.heap.size + 1, 5, none⟩) (by simp <;> omega) (.bool x.xPiece.xLast))
  have FR0 := Lib.hid (FR0.out.set (g := w.heap.size + 1) (o := 6) (.bool x.xPiece.xLoose) (by simp))
  have HB := Lib.hid (HB.out.setCell (p := ⟨w.heap.size + 1, 6, none⟩) (by simp <;> omega) (.bool x.xPiece.xLoose))
  have FR0 := Lib.hid (FR0.out.set (g := w.heap.size + 1) (o := 7) (.slice A7 x.xPiece.xBody.length c7) (by simp))
  have HB := Lib.hid (HB.out.setCell (p := ⟨w.heap.size + 1, 7, none⟩) (by simp <;> omega) (.slice A7 x.xPiece.xBody.length c7))
  have FR0 := Lib.hid (FR0.out.set (g := w.heap.size + 1) (o := 8) (.int .i64 x.xTimes) (by simp))
  have HB := Lib.hid (HB.out.setCell (p := ⟨w.heap.size + 1, 8, none⟩) (by simp <;> omega) (.int .i64 x.xTimes))
  have FR0 := Lib.hid (FR0.out.set (g := w.heap.size + 1) (o := 9) (.bool x.xAcked) (by simp))
  have HB := Lib.hid (HB.out.setCell (p := ⟨w.heap.size + 1, 9, none⟩) (by simp <;> omega) (.bool x.xAcked))
  clear KR
  go_wp2
  refine bodyPost_ret (v := .agg #[.int .i64 x.xMark, .int .i64 x.xPiece.xTsn, .int .i64 x.xPiece.xStream, .int .i64 x.xPiece.xSsn, .bool x.xPiece.xFirst, .bool x.xPiece.xLast, .bool x.xPiece.xLoose, .slice A7 x.xPiece.xBody.length c7, .int .i64 x.xTimes, .bool x.xAcked]) (by simp [results, Try.results255, go_sem, rc0, rc1, rc2, rc3, rc4, rc5, rc6, rc7, rc8, rc9]) rfl ⟨[.int .i64 x.xMark, .int .i64 x.xPiece.xTsn, .int .i64 x.xPiece.xStream, .int .i64 x.xPiece.xSsn, .bool x.xPiece.xFirst, .bool x.xPiece.xLast, .bool x.xPiece.xLoose, .slice A7 x.xPiece.xBody.length c7, .int .i64 x.xTimes, .bool x.xAcked], _, rfl, ⟨_, _, rfl, O7.out.keep ?_, rfl⟩, ?_, ?_⟩
  · exact (fun b hb => FR0.out.block b (O7.out.inside b hb) (by have h1 := (N0.out.2 b hb).1; simp only [List.mem_cons, List.not_mem_nil, or_false, not_or]; omega))
  · have h := N0.out
    exact h.mono (by omega) (by simp only [size_set]; omega)
  · exact HB.out

set_option maxHeartbeats 2000000 in
theorem eqDatSent_s (cs ds : List Value) (x : DDatSent) (w : World) (h : FDatSent w cs x) (k : FDatSent w ds x) (hz : zDatSent x ≤ 1048576) :
    Calls Try.prog 265 #[.agg cs.toArray, .agg ds.toArray] w fun e w' => e = .returned (.bool true) ∧ Below w.heap.size w w' := by
  obtain ⟨v7, rfl, h7⟩ := h
  obtain ⟨u7, rfl, k7⟩ := k
  simp only [zDatSent] at hz
  have Hz := Lib.hid hz
  clear hz
  have KA := Lib.hid ((Blk.new (w := w) (b := w.heap.size) #[.int .i64 x.xMark, .int .i64 x.xPiece.xTsn, .int .i64 x.xPiece.xStream, .int .i64 x.xPiece.xSsn, .bool x.xPiece.xFirst, .bool x.xPiece.xLast, .bool x.xPiece.xLoose, v7, .int .i64 x.xTimes, .bool x.xAcked] 287 rfl).alloc (.cells #[.int .i64 x.xMark, .int .i64 x.xPiece.xTsn, .int .i64 x.xPiece.xStream, .int .i64 x.xPiece.xSsn, .bool x.xPiece.xFirst, .bool x.xPiece.xLast, .bool x.xPiece.xLoose, u7, .int .i64 x.xTimes, .bool x.xAcked] 287))
  have KB := Lib.hid (Blk.new (w := w.alloc (.cells #[.int .i64 x.xMark, .int .i64 x.xPiece.xTsn, .int .i64 x.xPiece.xStream, .int .i64 x.xPiece.xSsn, .bool x.xPiece.xFirst, .bool x.xPiece.xLast, .bool x.xPiece.xLoose, v7, .int .i64 x.xTimes, .bool x.xAcked] 287)) (b := w.heap.size + 1) #[.int .i64 x.xMark, .int .i64 x.xPiece.xTsn, .int .i64 x.xPiece.xStream, .int .i64 x.xPiece.xSsn, .bool x.xPiece.xFirst, .bool x.xPiece.xLast, .bool x.xPiece.xLoose, u7, .int .i64 x.xTimes, .bool x.xAcked] 287 (by simp))
  have HB := Lib.hid (below2 w (.cells #[.int .i64 x.xMark, .int .i64 x.xPiece.xTsn, .int .i64 x.xPiece.xStream, .int .i64 x.xPiece.xSsn, .bool x.xPiece.xFirst, .bool x.xPiece.xLast, .bool x.xPiece.xLoose, v7, .int .i64 x.xTimes, .bool x.xAcked] 287) (.cells #[.int .i64 x.xMark, .int .i64 x.xPiece.xTsn, .int .i64 x.xPiece.xStream, .int .i64 x.xPiece.xSsn, .bool x.xPiece.xFirst, .bool x.xPiece.xLast, .bool x.xPiece.xLoose, u7, .int .i64 x.xTimes, .bool x.xAcked] 287))
  have H7 := Lib.hid h7
  have K7 := Lib.hid k7
  clear h7 k7
  go_enter Try.func265, Try.ntmps265
  go_wp2_with fail
  refine (eqDatPiece_s _ _ x.xPiece _ ⟨_, rfl, (H7.out.below (by exact HB.out))⟩ ⟨_, rfl, (K7.out.below (by exact HB.out))⟩ (by have := Hz.out; omega)).mono ?_
  rintro e w1 ⟨rfl, b1⟩
  have KA := Lib.hid (KA.out.keep b1)
  have KB := Lib.hid (KB.out.keep b1)
  have HB := Lib.hid (HB.out.trans (b1.mono HB.out.size))
  clear b1
  have ac8 := KA.out.at (i := 8) rfl
  have bc8 := KB.out.at (i := 8) rfl
  have ac9 := KA.out.at (i := 9) rfl
  have bc9 := KB.out.at (i := 9) rfl
  go_wp2
  go_ret
  exact ⟨rfl, HB.out⟩

set_option maxHeartbeats 1000000 in
theorem szDatSentS_z (v : Value) (xs : List DDatSent) (left : Int) (w : World) (hv : RdDatSentS w v xs) (hl : 0 ≤ left ∧ left ≤ 1048576) :
    Calls Try.prog 178 #[v, .int .i64 left] w fun e w' => e = .returned (.int .i64 (szR left (zL zDatSent xs))) ∧ Below w.heap.size w w' := by
  obtain ⟨A, c, rfl⟩ := RdS.slice hv
  have hc := RdS.cap hv
  have hzl : zL zDatSent xs = xs.length + szL zDatSent xs := rfl
  generalize zL zDatSent xs = zx at *
  generalize hl' : xs.length = n at *
  have Hl := Lib.hid hl'
  have Hv := Lib.hid hv
  have Hz := Lib.hid hzl
  clear hl' hv hzl
  by_cases hn : (n : Int) ≤ left
  · go_enter Try.func178, Try.ntmps178
    go_wp2
    go_loopw [1, 5] (fun q i w1 => ∃ (j : Nat) (l : Int), j ≤ n ∧ i = .int .i64 j ∧ q = .int .i64 l ∧ 0 ≤ l ∧ l ≤ 1048576 ∧ l + szL zDatSent (xs.take j) + n = left ∧ Below w.heap.size w w1) (fun _ i _ => n - (intOf i).toNat)
    case atStart => exact ⟨0, left - n, by omega, rfl, rfl, by omega, by omega, by simp [szL], Below.refl _ _⟩
    case round =>
      obtain ⟨j, l, hj, rfl, rfl, hl0, hl1, hb, hw⟩ := hrel
      have Hb := Lib.hid hb
      have Hw := Lib.hid hw
      clear hb hw
      by_cases hlt : j < n
      · obtain ⟨ad, cs, hk, rfl, hcl, hca, hE⟩ := RdS.at_ (Hv.out.below Hw.out) hlt
        have HE := Lib.hid hE
        obtain ⟨v7, rfl, h7⟩ := hE
        have c0 := hca.c0
        have c1 := hca.ci 0 rfl
        have c2 := hca.ci 1 rfl
        have c3 := hca.ci 2 rfl
        have c4 := hca.ci 3 rfl
        have c5 := hca.ci 4 rfl
        have c6 := hca.ci 5 rfl
        have c7 := hca.ci 6 rfl
        have c8 := hca.ci 7 rfl
        have c9 := hca.ci 8 rfl
        clear hca hcl h7
        have hr := szR_cases l (zDatSent xs[j]) (by omega)
        go_wp2_with fail
        refine (szDatSent_z _ xs[j] _ _ HE.out ⟨hl0, hl1⟩).mono ?_
        rintro e w2 ⟨rfl, hb2⟩
        have Hb2 := Lib.hid (Hw.out.trans (hb2.mono Hw.out.size))
        clear hb2 c0 c1 c2 c3 c4 c5 c6 c7 c8 c9
        have Hx := Lib.hid (szL_take_succ (sz := zDatSent) hk)
        have Hy := Lib.hid (szL_take_le (sz := zDatSent) (xs := xs) (j + 1))
        generalize szR l (zDatSent xs[j]) = r at *
        rcases hr with ⟨rfl, hr⟩ | ⟨h1, h2, h3⟩
        · have Hr := Lib.hid hr
          clear hr
          go_wp2
          go_ret
          refine ⟨retI ?_, Hb2.out⟩
          have h4 := Hb.out
          have h5 := Hx.out
          have h6 := Hy.out
          have h7 := Hz.out
          have h8 := Hr.out
          rw [szR_no (by omega)]
        · have H3 := Lib.hid h3
          clear h3
          go_wp2
          refine ⟨⟨j + 1, r, by omega, by go_num, rfl, h1, h2, ?_, Hb2.out⟩, by simp [intOf]; omega⟩
          have h4 := Hb.out
          have h5 := H3.out
          rw [Hx.out]
          omega
      · have : j = n := by omega
        subst this
        have hf : szR left zx = l := by
          have h4 := Hb.out
          have h7 := Hz.out
          rw [List.take_of_length_le (by rw [Hl.out]; omega)] at h4
          rw [szR_yes (by omega)]; omega
        have Hf := Lib.hid hf
        clear hf
        go_wp2
        go_ret
        exact ⟨retI Hf.out.symm, Hw.out⟩
  · have hf : szR left zx = -1 := by have h7 := Hz.out; rw [szR_no (by omega)]
    have Hf := Lib.hid hf
    clear hf
    go_enter Try.func178, Try.ntmps178
    go_wp2
    go_ret
    exact ⟨retI Hf.out.symm, Below.refl _ _⟩
theorem info_DatSent : (Try.prog.info? 287).map (fun i => (i.zero, i.size)) = some (some (.agg #[.int .i64 0, .int .i64 0, .int .i64 0, .int .i64 0, .bool false, .bool false, .bool false, .slice none 0 0, .int .i64 0, .bool false]), 10) := by kernel_rfl
theorem infob_DatSent : (match Try.prog.info? 287 with | some i => decide (i.bytes ≤ 4096) | none => false) = true := by kernel_rfl

set_option maxRecDepth 100000 in
set_option maxHeartbeats 1000000 in
theorem toDatSentS_n (v : Value) (xs : List DDatSent) (w : World) (hv : RdDatSentS w v xs) (hz : zL zDatSent xs ≤ 1048576) :
    Calls Try.prog 184 #[v] w fun e w' => ∃ v' f, e = .returned v' ∧ OwDatSentS w' f v' xs ∧ Nw w.heap.size w'.heap.size f ∧ Below w.heap.size w w' := by
  obtain ⟨i0, hi0, hz0, hz1, hz2⟩ := info_parts2 info_DatSent infob_DatSent
  have hn : xs.length ≤ 1048576 := by unfold zL at hz; omega
  have hx : ∀ x ∈ xs, zDatSent x ≤ 1048576 := fun x h => by have := szL_mem (z := zDatSent) h; unfold zL at hz; omega
  clear hz
  obtain ⟨A, c, rfl⟩ := RdS.slice hv
  generalize hl : xs.length = n at *
  have Hl := Lib.hid hl
  have Hv := Lib.hid hv
  have Hx := Lib.hid hx
  clear hl hv hx
  go_enter Try.func184, Try.ntmps184
  go_wp2_with (at_make; refine wpList_make_full _ rfl _ _ 81 rfl 0 287 i0 _ 10 Try.underlying81 hi0 hz0 hz1 _ _ _ _ n rfl rfl rfl rfl (make_room hz2 hn) (by unfold maxLen; omega) (Nat.zero_le _) ?_; intro w1 h1 h2)
  generalize hzs : (madeCells _ (n * 10)).toList = zs at h1
  have Z := Lib.hid (show zs.length = n * 10 from h1.1)
  have F1 := Lib.hid (Fill.start (E := EDatSent) (xs := xs) h1)
  have B1 := Lib.hid ((Below.refl w.heap.size w).grown h2 (Nat.le_refl _) (by simp))
  clear h1 h2 hzs
  go_loopw [4] (fun i w2 => ∃ j : Nat, j ≤ n ∧ i = .int .i64 j ∧ Fill 287 10 EDatSent zs xs w.heap.size n j w2 ∧ Below w.heap.size w w2) (fun i _ => n - (intOf i).toNat)
  case atStart => exact ⟨0, by omega, rfl, F1.out, B1.out⟩
  case round =>
    obtain ⟨j, hj, rfl, hfi, hb⟩ := hrel
    have Hf := Lib.hid hfi
    have Hb := Lib.hid hb
    clear hfi hb
    by_cases hlt : j < n
    · obtain ⟨ad, cs, hk, rfl, hcl, hca, hE⟩ := RdS.at_ (Hv.out.below Hb.out) hlt
      have HE := Lib.hid hE
      obtain ⟨v7, rfl, h7⟩ := hE
      have c0 := hca.c0
      have c1 := hca.ci 0 rfl
      have c2 := hca.ci 1 rfl
      have c3 := hca.ci 2 rfl
      have c4 := hca.ci 3 rfl
      have c5 := hca.ci 4 rfl
      have c6 := hca.ci 5 rfl
      have c7 := hca.ci 6 rfl
      have c8 := hca.ci 7 rfl
      have c9 := hca.ci 8 rfl
      clear hca hcl h7
      go_wp2_with fail
      refine (toDatSent_n _ xs[j] _ HE.out (Hx.out _ (List.getElem_mem hk))).mono ?_
      rintro e w3 ⟨cs', f', rfl, hE', hn', hb3⟩
      clear c0 c1 c2 c3 c4 c5 c6 c7 c8 c9
      obtain ⟨d0, e0⟩ := Hf.out.cell hb3 (p := j * 10) (by omega)
      have z0 := Hf.out.frozen hb3 (j * 10)
      obtain ⟨d1, e1⟩ := Hf.out.cell hb3 (p := j * 10 + 1) (by omega)
      have z1 := Hf.out.frozen hb3 (j * 10 + 1)
      obtain ⟨d2, e2⟩ := Hf.out.cell hb3 (p := j * 10 + 2) (by omega)
      have z2 := Hf.out.frozen hb3 (j * 10 + 2)
      obtain ⟨d3, e3⟩ := Hf.out.cell hb3 (p := j * 10 + 3) (by omega)
      have z3 := Hf.out.frozen hb3 (j * 10 + 3)
      obtain ⟨d4, e4⟩ := Hf.out.cell hb3 (p := j * 10 + 4) (by omega)
      have z4 := Hf.out.frozen hb3 (j * 10 + 4)
      obtain ⟨d5, e5⟩ := Hf.out.cell hb3 (p := j * 10 + 5) (by omega)
      have z5 := Hf.out.frozen hb3 (j * 10 + 5)
      obtain ⟨d6, e6⟩ := Hf.out.cell hb3 (p := j * 10 + 6) (by omega)
      have z6 := Hf.out.frozen hb3 (j * 10 + 6)
      obtain ⟨d7, e7⟩ := Hf.out.cell hb3 (p := j * 10 + 7) (by omega)
      have z7 := Hf.out.frozen hb3 (j * 10 + 7)
      obtain ⟨d8, e8⟩ := Hf.out.cell hb3 (p := j * 10 + 8) (by omega)
      have z8 := Hf.out.frozen hb3 (j * 10 + 8)
      obtain ⟨d9, e9⟩ := Hf.out.cell hb3 (p := j * 10 + 9) (by omega)
      have z9 := Hf.out.frozen hb3 (j * 10 + 9)
      obtain ⟨s1, s2, s3⟩ := Hf.out.step EDatSent.framed EDatSent.inside Z.out hlt hb3 (List.getElem?_eq_getElem hk) (cs := cs') (by obtain ⟨_, _, rfl, _⟩ := id hE'; rfl) hE' hn'.1 (fun b hb' => (hn'.2 b hb').1)
      have S1 := Lib.hid s1
      have S2 := Lib.hid ((Hb.out.trans (hb3.mono Hb.out.size)).trans (s2.below (by simp) (Nat.le_trans Hb.out.size hb3.size)))
      clear s1 s2 s3
      obtain ⟨u7, g7, rfl, o7, rfl⟩ := hE'
      obtain ⟨A7, c7, rfl⟩ := o7.rd.slice
      clear hb3 hn' o7
      go_wp2
      exact ⟨⟨j + 1, by omega, by go_num, S1.out, S2.out⟩, by simp [intOf]; omega⟩
    · have : j = n := by omega
      subst this
      go_wp2
      go_ret
      obtain ⟨bs, h1, h2, h3⟩ := Hf.out.done Hl.out Z.out
      exact ⟨_, bs, rfl, h1, ⟨h2, fun b hb => ⟨h3 b hb, h1.inside EDatSent.inside b hb⟩⟩, Hb.out⟩

set_option maxRecDepth 100000 in
set_option maxHeartbeats 1000000 in
theorem eqDatSentS_s (u v : Value) (xs : List DDatSent) (w : World) (hu : RdDatSentS w u xs) (hv : RdDatSentS w v xs) (hz : zL zDatSent xs ≤ 1048576) :
    Calls Try.prog 190 #[u, v] w fun e w' => e = .returned (.bool true) ∧ Below w.heap.size w w' := by
  have hn : xs.length ≤ 1048576 := by unfold zL at hz; omega
  have hx : ∀ x ∈ xs, zDatSent x ≤ 1048576 := fun x h => by have := szL_mem (z := zDatSent) h; unfold zL at hz; omega
  clear hz
  obtain ⟨A, c, rfl⟩ := RdS.slice hv
  obtain ⟨A', c', rfl⟩ := RdS.slice hu
  have hcv := RdS.cap hv
  have hcu := RdS.cap hu
  have Hv := Lib.hid hv
  have Hu := Lib.hid hu
  have Hx := Lib.hid hx
  clear hv hu hx
  generalize hl : xs.length = n at *
  have Hl := Lib.hid hl
  clear hl
  go_enter Try.func190, Try.ntmps190
  go_wp2
  go_loopw [5] (fun i w2 => ∃ j : Nat, j ≤ n ∧ i = .int .i64 j ∧ Below w.heap.size w w2) (fun i _ => n - (intOf i).toNat)
  case atStart => exact ⟨0, by omega, rfl, Below.refl _ _⟩
  case round =>
    obtain ⟨j, hj, rfl, hb⟩ := hrel
    have Hb := Lib.hid hb
    clear hb
    by_cases hlt : j < n
    · obtain ⟨ad, cs, hk, rfl, hcl, hca, hE⟩ := RdS.at_ (Hv.out.below Hb.out) hlt
      obtain ⟨ad', cs', hk', rfl, hcl', hca', hE'⟩ := RdS.at_ (Hu.out.below Hb.out) hlt
      have HE := Lib.hid hE
      have HE' := Lib.hid hE'
      obtain ⟨v7, rfl, h7⟩ := hE
      obtain ⟨u7, rfl, k7⟩ := hE'
      have c0 := hca.c0
      have d0 := hca'.c0
      have c1 := hca.ci 0 rfl
      have d1 := hca'.ci 0 rfl
      have c2 := hca.ci 1 rfl
      have d2 := hca'.ci 1 rfl
      have c3 := hca.ci 2 rfl
      have d3 := hca'.ci 2 rfl
      have c4 := hca.ci 3 rfl
      have d4 := hca'.ci 3 rfl
      have c5 := hca.ci 4 rfl
      have d5 := hca'.ci 4 rfl
      have c6 := hca.ci 5 rfl
      have d6 := hca'.ci 5 rfl
      have c7 := hca.ci 6 rfl
      have d7 := hca'.ci 6 rfl
      have c8 := hca.ci 7 rfl
      have d8 := hca'.ci 7 rfl
      have c9 := hca.ci 8 rfl
      have d9 := hca'.ci 8 rfl
      clear hca hcl hca' hcl' h7 k7
      go_wp2
      go_still_tail 8, (by kernel_rfl)
      go_wp2_with fail
      refine (eqDatSent_s _ _ xs[j] _ (by exact HE'.out) (by exact HE.out) (Hx.out _ (List.getElem_mem hk))).mono ?_
      rintro e w3 ⟨rfl, hb3⟩
      have Hb3 := Lib.hid (Hb.out.trans ((below_of_drew hb3).mono Hb.out.size))
      clear hb3 c0 d0 c1 d1 c2 d2 c3 d3 c4 d4 c5 d5 c6 d6 c7 d7 c8 d8 c9 d9
      go_wp2
      exact ⟨⟨j + 1, by omega, by go_num, Hb3.out⟩, by simp [intOf]; omega⟩
    · go_wp2
      go_ret
      exact ⟨rfl, Hb.out⟩

theorem cells_DatSent : Try.prog.cellsOf 285 = 10 := by kernel_rfl
set_option maxRecDepth 100000 in
theorem read_DatSent {H : Type} {enc : TypeId × Value → H} {w : World} {base : Nat} {spare : Nat → Bool} {held : Bool} (n : Nat) (cs : List Value) (y : DataW H × List MemPlace) (hcs : cs.length = 10)
    (h : DataW.trod enc Try.prog w base spare held n 285 cs = some y) : ∃ x : DDatSent, FDatSent w cs x := by
  obtain ⟨ys, n', _, _, _, hxl, hg⟩ := DataW.trod_struct Try.underlying285 h
  match cs, hcs with
  | [c0, c1, c2, c3, c4, c5, c6, c7, c8, c9], _ =>
    match ys, hxl with
    | [y0, y1, y2, y3], _ =>
      have h0 : DataW.trod enc Try.prog w base spare held n' 3 (([c0, c1, c2, c3, c4, c5, c6, c7, c8, c9].drop 0).take (Try.prog.cellsOf 3)) = some y0 := hg 0 _ rfl
      have h1 : DataW.trod enc Try.prog w base spare held n' 283 (([c0, c1, c2, c3, c4, c5, c6, c7, c8, c9].drop 1).take (Try.prog.cellsOf 283)) = some y1 := hg 1 _ rfl
      have h2 : DataW.trod enc Try.prog w base spare held n' 3 (([c0, c1, c2, c3, c4, c5, c6, c7, c8, c9].drop 8).take (Try.prog.cellsOf 3)) = some y2 := hg 2 _ rfl
      have h3 : DataW.trod enc Try.prog w base spare held n' 4 (([c0, c1, c2, c3, c4, c5, c6, c7, c8, c9].drop 9).take (Try.prog.cellsOf 4)) = some y3 := hg 3 _ rfl
      simp only [cellsInt, cells_DatPiece, cellsBool, List.drop_zero, List.drop_succ_cons, List.take_succ_cons, List.take_zero] at h0 h1 h2 h3
      obtain ⟨a0, rfl⟩ := intCell h0
      obtain ⟨a1, e1⟩ := read_DatPiece _ _ _ rfl h1
      obtain ⟨t7, e1, g_7⟩ := e1
      simp only [List.cons.injEq, and_true] at e1
      obtain ⟨rfl, rfl, rfl, rfl, rfl, rfl, rfl⟩ := e1
      obtain ⟨a2, rfl⟩ := intCell h2
      obtain ⟨a3, rfl⟩ := boolCell h3
      exact ⟨⟨a0, a1, a2, a3⟩, _, rfl, g_7⟩
theorem cells_DatSentS : Try.prog.cellsOf 95 = 1 := by kernel_rfl
end Go.Proofs.Ythdjjgbjemaabaa
