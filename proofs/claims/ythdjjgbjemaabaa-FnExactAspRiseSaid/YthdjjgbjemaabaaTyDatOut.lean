/-
  Words and the laws' helpers of DatOut and of lists of it. (Written by wip/tools/gentype.py.)
-/
import Derived.Test.YthdjjgbjemaabaaKin
import Derived.Test.YthdjjgbjemaabaaTyDatSent
import Derived.Test.YthdjjgbjemaabaaTyDatUnit
namespace Go.Proofs.Ythdjjgbjemaabaa
open Go.ChangeShapes Go.WideShapes Go.ChangeAt Go.RowKit
set_option linter.unusedVariables false
set_option linter.unusedSimpArgs false

structure DDatOut where
  xStreams : Int
  xNext : Int
  xFlight : List DDatSent
  xQueue : List DDatUnit
  xSsns : List Int
def FDatOut (w : World) (cs : List Value) (x : DDatOut) : Prop := ∃ v2 v3 v4 : Value, cs = [.int .i64 x.xStreams, .int .i64 x.xNext, v2, v3, v4] ∧ RdDatSentS w v2 x.xFlight ∧ RdDatUnitS w v3 x.xQueue ∧ RdI w v4 x.xSsns
def EDatOut (w : World) (f : List Nat) (cs : List Value) (x : DDatOut) : Prop := ∃ (v2 v3 v4 : Value) (f2 f3 f4 : List Nat), cs = [.int .i64 x.xStreams, .int .i64 x.xNext, v2, v3, v4] ∧ OwDatSentS w f2 v2 x.xFlight ∧ OwDatUnitS w f3 v3 x.xQueue ∧ OwIn w f4 v4 x.xSsns ∧ f = f2 ++ f3 ++ f4
theorem FDatOut.below {w w' : World} {cs : List Value} {x : DDatOut} (h : FDatOut w cs x) (hb : Below w.heap.size w w') : FDatOut w' cs x := by
  obtain ⟨v2, v3, v4, rfl, h2, h3, h4⟩ := h
  exact ⟨v2, v3, v4, rfl, h2.below hb, h3.below hb, h4.below hb⟩
theorem EDatOut.framed : Framed EDatOut := by
  rintro w w' f cs x ⟨v2, v3, v4, f2, f3, f4, rfl, h2, h3, h4, rfl⟩ hb
  exact ⟨_, _, _, _, _, _, rfl, h2.keep (fun b h => hb b (by simp [h])), h3.keep (fun b h => hb b (by simp [h])), h4.keep (fun b h => hb b (by simp [h])), rfl⟩
theorem EDatOut.inside : Inside EDatOut := by
  rintro w f cs x ⟨v2, v3, v4, f2, f3, f4, rfl, h2, h3, h4, rfl⟩ b hb
  simp only [List.mem_append] at hb
  rcases hb with (hb | hb) | hb
  · exact h2.inside b hb
  · exact h3.inside b hb
  · exact h4.inside b hb
theorem EDatOut.rd {w : World} {f : List Nat} {cs : List Value} {x : DDatOut} (h : EDatOut w f cs x) : FDatOut w cs x := by
  obtain ⟨v2, v3, v4, f2, f3, f4, rfl, h2, h3, h4, rfl⟩ := h
  exact ⟨v2, v3, v4, rfl, h2.rd, h3.rd, h4.rd⟩
abbrev RdDatOutS (w : World) (v : Value) (xs : List DDatOut) : Prop := RdS 5 FDatOut w v xs
def OwDatOutS (w : World) (f : List Nat) (v : Value) (xs : List DDatOut) : Prop := OwL 84 5 EDatOut w f v xs
theorem RdDatOutS.below {w w' : World} {v : Value} {xs : List DDatOut} (h : RdDatOutS w v xs) (hb : Below w.heap.size w w') : RdDatOutS w' v xs := RdS.below (fun _ _ h => h.below hb) h hb
theorem RdDatOutS.slice {w : World} {v : Value} {xs : List DDatOut} (h : RdDatOutS w v xs) : ∃ A c, v = .slice A xs.length c := RdS.slice h
theorem OwDatOutS.keep {w w' : World} {f : List Nat} {v : Value} {xs : List DDatOut} (h : OwDatOutS w f v xs) (hb : ∀ b ∈ f, w'.heap[b]? = w.heap[b]?) : OwDatOutS w' f v xs := OwL.keep EDatOut.framed h hb
theorem OwDatOutS.inside {w : World} {f : List Nat} {v : Value} {xs : List DDatOut} (h : OwDatOutS w f v xs) : ∀ b ∈ f, b < w.heap.size := OwL.inside EDatOut.inside h
theorem OwDatOutS.rd {w : World} {f : List Nat} {v : Value} {xs : List DDatOut} (h : OwDatOutS w f v xs) : RdDatOutS w v xs := OwL.rd (fun _ _ _ h => h.rd) h
def zDatOut (x : DDatOut) : Nat := zL zDatSent x.xFlight + zL zDatUnit x.xQueue + x.xSsns.length

set_option maxHeartbeats 1000000 in
theorem szDatOut_z (cs : List Value) (x : DDatOut) (left : Int) (w : World) (h : FDatOut w cs x) (hl : 0 ≤ left ∧ left ≤ 1048576) :
    Calls Try.prog 66 #[.agg cs.toArray, .int .i64 left] w fun e w' => e = .returned (.int .i64 (szR left (zDatOut x))) ∧ Below w.heap.size w w' := by
  obtain ⟨v2, v3, v4, rfl, h2, h3, h4⟩ := h
  have Hz := Lib.hid (show zDatOut x = zL zDatSent x.xFlight + zL zDatUnit x.xQueue + x.xSsns.length from rfl)
  generalize zDatOut x = zx at Hz ⊢
  have K := Lib.hid (Blk.new (w := w) (b := w.heap.size) #[.int .i64 x.xStreams, .int .i64 x.xNext, v2, v3, v4] 98 rfl)
  have HB := Lib.hid ((Below.refl w.heap.size w).alloc (Nat.le_refl _) (.cells #[.int .i64 x.xStreams, .int .i64 x.xNext, v2, v3, v4] 98))
  have H2 := Lib.hid h2
  have H3 := Lib.hid h3
  have H4 := Lib.hid h4
  clear h2 h3 h4
  go_enter Try.func66, Try.ntmps66
  go_wp2_with fail
  refine (szDatSentS_z _ x.xFlight _ _ (H2.out.below HB.out) ⟨by omega, by omega⟩).mono ?_
  rintro e w1 ⟨rfl, b1⟩
  have K := Lib.hid (K.out.keep b1)
  have HB := Lib.hid (HB.out.trans (b1.mono HB.out.size))
  clear b1
  have hr0 := szR_cases left (zL zDatSent x.xFlight) (by omega)
  generalize szR left (zL zDatSent x.xFlight) = r0 at *
  rcases hr0 with ⟨rfl, hr0⟩ | ⟨hr0, hs0, ht0⟩
  · have Q := Lib.hid hr0
    go_wp2
    go_ret
    refine ⟨retI ?_, HB.out⟩
    have hz := Hz.out
    have hq := Q.out
    rw [szR_no (by omega)]
  have pc3 := K.out.at (i := 3) rfl
  go_wp2_with fail
  refine (szDatUnitS_z _ x.xQueue _ _ (H3.out.below HB.out) ⟨by omega, by omega⟩).mono ?_
  rintro e w2 ⟨rfl, b2⟩
  clear pc3
  have K := Lib.hid (K.out.keep b2)
  have HB := Lib.hid (HB.out.trans (b2.mono HB.out.size))
  clear b2
  have hr1 := szR_cases r0 (zL zDatUnit x.xQueue) (by omega)
  generalize szR r0 (zL zDatUnit x.xQueue) = r1 at *
  rcases hr1 with ⟨rfl, hr1⟩ | ⟨hr1, hs1, ht1⟩
  · have Q := Lib.hid hr1
    have T0 := Lib.hid ht0
    go_wp2
    go_ret
    refine ⟨retI ?_, HB.out⟩
    have hz := Hz.out
    have hq := Q.out
    have t0 := T0.out
    rw [szR_no (by omega)]
  have pc4 := K.out.at (i := 4) rfl
  go_wp2_with fail
  refine (szIntS_z _ x.xSsns _ _ (H4.out.below HB.out) ⟨by omega, by omega⟩).mono ?_
  rintro e w3 ⟨rfl, b3⟩
  clear pc4
  have K := Lib.hid (K.out.keep b3)
  have HB := Lib.hid (HB.out.trans (b3.mono HB.out.size))
  clear b3
  have hr2 := szR_cases r1 (x.xSsns.length) (by omega)
  generalize szR r1 (x.xSsns.length) = r2 at *
  rcases hr2 with ⟨rfl, hr2⟩ | ⟨hr2, hs2, ht2⟩
  · have Q := Lib.hid hr2
    have T0 := Lib.hid ht0
    have T1 := Lib.hid ht1
    go_wp2
    go_ret
    refine ⟨retI ?_, HB.out⟩
    have hz := Hz.out
    have hq := Q.out
    have t0 := T0.out
    have t1 := T1.out
    rw [szR_no (by omega)]
  have hz := Hz.out
  have Hf := Lib.hid (show szR left zx = r2 by rw [szR_yes (by omega)]; omega)
  clear hz
  go_wp2
  go_ret
  exact ⟨retI Hf.out.symm, HB.out⟩

set_option maxRecDepth 100000 in
set_option maxHeartbeats 2000000 in
theorem toDatOut_n (cs : List Value) (x : DDatOut) (w : World) (h : FDatOut w cs x) (hz : zDatOut x ≤ 1048576) :
    Calls Try.prog 69 #[.agg cs.toArray] w fun e w' => ∃ cs' f, e = .returned (.agg cs'.toArray) ∧ EDatOut w' f cs' x ∧ Nw w.heap.size w'.heap.size f ∧ Below w.heap.size w w' := by
  obtain ⟨v2, v3, v4, rfl, h2, h3, h4⟩ := h
  simp only [zDatOut] at hz
  have H2 := Lib.hid h2
  have H3 := Lib.hid h3
  have H4 := Lib.hid h4
  clear h2 h3 h4
  have Hz := Lib.hid hz
  clear hz
  have KA := Lib.hid (((Blk.new (w := w) (b := w.heap.size) #[.int .i64 x.xStreams, .int .i64 x.xNext, v2, v3, v4] 98 rfl).alloc (.cells #[.int .i64 0, .int .i64 0, .slice none 0 0, .slice none 0 0, .slice none 0 0] 84)).alloc (.cells #[.int .i64 x.xStreams, .int .i64 x.xNext, .slice none 0 0, .slice none 0 0, .slice none 0 0] 84))
  have KR := Lib.hid ((Blk.new (w := w.alloc (.cells #[.int .i64 x.xStreams, .int .i64 x.xNext, v2, v3, v4] 98)) (b := w.heap.size + 1) #[.int .i64 0, .int .i64 0, .slice none 0 0, .slice none 0 0, .slice none 0 0] 84 (by simp)).alloc (.cells #[.int .i64 x.xStreams, .int .i64 x.xNext, .slice none 0 0, .slice none 0 0, .slice none 0 0] 84))
  have KO := Lib.hid (Blk.new (w := (w.alloc (.cells #[.int .i64 x.xStreams, .int .i64 x.xNext, v2, v3, v4] 98)).alloc (.cells #[.int .i64 0, .int .i64 0, .slice none 0 0, .slice none 0 0, .slice none 0 0] 84)) (b := w.heap.size + 1 + 1) #[.int .i64 x.xStreams, .int .i64 x.xNext, .slice none 0 0, .slice none 0 0, .slice none 0 0] 84 (by simp))
  have HB := Lib.hid (below3 w (.cells #[.int .i64 x.xStreams, .int .i64 x.xNext, v2, v3, v4] 98) (.cells #[.int .i64 0, .int .i64 0, .slice none 0 0, .slice none 0 0, .slice none 0 0] 84) (.cells #[.int .i64 x.xStreams, .int .i64 x.xNext, .slice none 0 0, .slice none 0 0, .slice none 0 0] 84))
  have HS : w.heap.size + 3 ≤ (((w.alloc (.cells #[.int .i64 x.xStreams, .int .i64 x.xNext, v2, v3, v4] 98)).alloc (.cells #[.int .i64 0, .int .i64 0, .slice none 0 0, .slice none 0 0, .slice none 0 0] 84)).alloc (.cells #[.int .i64 x.xStreams, .int .i64 x.xNext, .slice none 0 0, .slice none 0 0, .slice none 0 0] 84)).heap.size := by simp
  go_enter Try.func69, Try.ntmps69
  go_wp2_with fail
  refine (toDatSentS_n _ x.xFlight _ (H2.out.below (by exact HB.out)) (by have := Hz.out; omega)).mono ?_
  rintro e w1 ⟨u2, g2, rfl, o2, n2, b1⟩
  obtain ⟨A2, c2, rfl⟩ := o2.rd.slice
  have KA := Lib.hid (KA.out.keep b1)
  have KR := Lib.hid (KR.out.keep b1)
  have KO := Lib.hid (KO.out.keep b1)
  have HS : w.heap.size + 3 ≤ w1.heap.size := Nat.le_trans HS b1.size
  have S1 := Lib.hid HS
  have FR0 := Lib.hid (FrL.refl [w.heap.size + 1, w.heap.size + 1 + 1] w1)
  have HB := Lib.hid (HB.out.trans (b1.mono HB.out.size))
  have O2 := Lib.hid o2
  have N0 := Lib.hid (n2.mono (lo' := w.heap.size + 3) (by simp) (Nat.le_refl _))
  clear o2 n2 b1
  have ac0 := KA.out.at (i := 0) rfl
  have oc0 := KO.out.at (i := 0) rfl
  have ac1 := KA.out.at (i := 1) rfl
  have oc1 := KO.out.at (i := 1) rfl
  have ac2 := KA.out.at (i := 2) rfl
  have oc2 := KO.out.at (i := 2) rfl
  have of2 := KO.out.frozen 2
  have ac3 := KA.out.at (i := 3) rfl
  have oc3 := KO.out.at (i := 3) rfl
  have ac4 := KA.out.at (i := 4) rfl
  have oc4 := KO.out.at (i := 4) rfl
  have KA := Lib.hid (KA.out.far (b' := w.heap.size + 1 + 1) (o := 2) (v := .slice A2 x.xFlight.length c2) (by omega))
  have KR := Lib.hid (KR.out.far (b' := w.heap.size + 1 + 1) (o := 2) (v := .slice A2 x.xFlight.length c2) (by omega))
  have KO := Lib.hid (KO.out.set (i := 2) (v := .slice A2 x.xFlight.length c2) (by simp))
  have FR0 := Lib.hid (FR0.out.set (g := w.heap.size + 1 + 1) (o := 2) (.slice A2 x.xFlight.length c2) (by simp))
  have HB := Lib.hid (HB.out.setCell (p := ⟨w.heap.size + 1 + 1, 2, none⟩) (by simp <;> omega) (.slice A2 x.xFlight.length c2))
  have HS : w.heap.size + 3 ≤ ((w1.setCell ⟨w.heap.size + 1 + 1, 2, none⟩ (.slice A2 x.xFlight.length c2))).heap.size := by simpa [size_set] using HS
  go_wp2_with fail
  clear ac0 oc0 ac1 oc1 ac2 oc2 ac3 oc3 ac4 oc4 of2
  refine (toDatUnitS_n _ x.xQueue _ (H3.out.below (by exact HB.out)) (by have := Hz.out; omega)).mono ?_
  rintro e w2 ⟨u3, g3, rfl, o3, n3, b2⟩
  obtain ⟨A3, c3, rfl⟩ := o3.rd.slice
  have KA := Lib.hid (KA.out.keep b2)
  have KR := Lib.hid (KR.out.keep b2)
  have KO := Lib.hid (KO.out.keep b2)
  have HS : w.heap.size + 3 ≤ w2.heap.size := Nat.le_trans HS b2.size
  have S2 := Lib.hid HS
  have Y1 := Lib.hid (show w1.heap.size ≤ w2.heap.size by have := b2.size; simpa [size_set] using this)
  have FR0 := Lib.hid (FR0.out.trans (FrL.of_below b2))
  have FR1 := Lib.hid (FrL.refl [w.heap.size + 1, w.heap.size + 1 + 1] w2)
  have HB := Lib.hid (HB.out.trans (b2.mono HB.out.size))
  have O3 := Lib.hid o3
  have N1 := Lib.hid (n3.mono (lo' := w1.heap.size) (by simp [size_set]) (Nat.le_refl _))
  clear o3 n3 b2
  have ac0 := KA.out.at (i := 0) rfl
  have oc0 := KO.out.at (i := 0) rfl
  have ac1 := KA.out.at (i := 1) rfl
  have oc1 := KO.out.at (i := 1) rfl
  have ac2 := KA.out.at (i := 2) rfl
  have oc2 := KO.out.at (i := 2) rfl
  have ac3 := KA.out.at (i := 3) rfl
  have oc3 := KO.out.at (i := 3) rfl
  have of3 := KO.out.frozen 3
  have ac4 := KA.out.at (i := 4) rfl
  have oc4 := KO.out.at (i := 4) rfl
  have KA := Lib.hid (KA.out.far (b' := w.heap.size + 1 + 1) (o := 3) (v := .slice A3 x.xQueue.length c3) (by omega))
  have KR := Lib.hid (KR.out.far (b' := w.heap.size + 1 + 1) (o := 3) (v := .slice A3 x.xQueue.length c3) (by omega))
  have KO := Lib.hid (KO.out.set (i := 3) (v := .slice A3 x.xQueue.length c3) (by simp))
  have FR0 := Lib.hid (FR0.out.set (g := w.heap.size + 1 + 1) (o := 3) (.slice A3 x.xQueue.length c3) (by simp))
  have FR1 := Lib.hid (FR1.out.set (g := w.heap.size + 1 + 1) (o := 3) (.slice A3 x.xQueue.length c3) (by simp))
  have HB := Lib.hid (HB.out.setCell (p := ⟨w.heap.size + 1 + 1, 3, none⟩) (by simp <;> omega) (.slice A3 x.xQueue.length c3))
  have HS : w.heap.size + 3 ≤ ((w2.setCell ⟨w.heap.size + 1 + 1, 3, none⟩ (.slice A3 x.xQueue.length c3))).heap.size := by simpa [size_set] using HS
  go_wp2_with fail
  clear ac0 oc0 ac1 oc1 ac2 oc2 ac3 oc3 ac4 oc4 of3
  refine (toIntS_n _ x.xSsns _ (H4.out.below (by exact HB.out)) (by have := Hz.out; omega)).mono ?_
  rintro e w3 ⟨u4, g4, rfl, o4, n4, b3⟩
  obtain ⟨A4, c4, rfl⟩ := o4.rd.slice
  have KA := Lib.hid (KA.out.keep b3)
  have KR := Lib.hid (KR.out.keep b3)
  have KO := Lib.hid (KO.out.keep b3)
  have HS : w.heap.size + 3 ≤ w3.heap.size := Nat.le_trans HS b3.size
  have S3 := Lib.hid HS
  have Y2 := Lib.hid (show w2.heap.size ≤ w3.heap.size by have := b3.size; simpa [size_set] using this)
  have FR0 := Lib.hid (FR0.out.trans (FrL.of_below b3))
  have FR1 := Lib.hid (FR1.out.trans (FrL.of_below b3))
  have FR2 := Lib.hid (FrL.refl [w.heap.size + 1, w.heap.size + 1 + 1] w3)
  have HB := Lib.hid (HB.out.trans (b3.mono HB.out.size))
  have O4 := Lib.hid o4
  have N2 := Lib.hid (n4.mono (lo' := w2.heap.size) (by simp [size_set]) (Nat.le_refl _))
  clear o4 n4 b3
  have ac0 := KA.out.at (i := 0) rfl
  have oc0 := KO.out.at (i := 0) rfl
  have rc0 := KR.out.at (i := 0) rfl
  have rf0 := KR.out.frozen 0
  have ac1 := KA.out.at (i := 1) rfl
  have oc1 := KO.out.at (i := 1) rfl
  have rc1 := KR.out.at (i := 1) rfl
  have rf1 := KR.out.frozen 1
  have ac2 := KA.out.at (i := 2) rfl
  have oc2 := KO.out.at (i := 2) rfl
  have rc2 := KR.out.at (i := 2) rfl
  have rf2 := KR.out.frozen 2
  have ac3 := KA.out.at (i := 3) rfl
  have oc3 := KO.out.at (i := 3) rfl
  have rc3 := KR.out.at (i := 3) rfl
  have rf3 := KR.out.frozen 3
  have ac4 := KA.out.at (i := 4) rfl
  have oc4 := KO.out.at (i := 4) rfl
  have of4 := KO.out.frozen 4
  have rc4 := KR.out.at (i := 4) rfl
  have rf4 := KR.out.frozen 4
  have KA := Lib.hid (KA.out.far (b' := w.heap.size + 1 + 1) (o := 4) (v := .slice A4 x.xSsns.length c4) (by omega))
  have KR := Lib.hid (KR.out.far (b' := w.heap.size + 1 + 1) (o := 4) (v := .slice A4 x.xSsns.length c4) (by omega))
  have KO := Lib.hid (KO.out.set (i := 4) (v := .slice A4 x.xSsns.length c4) (by simp))
  have FR0 := Lib.hid (FR0.out.set (g := w.heap.size + 1 + 1) (o := 4) (.slice A4 x.xSsns.length c4) (by simp))
  have FR1 := Lib.hid (FR1.out.set (g := w.heap.size + 1 + 1) (o := 4) (.slice A4 x.xSsns.length c4) (by simp))
  have FR2 := Lib.hid (FR2.out.set (g := w.heap.size + 1 + 1) (o := 4) (.slice A4 x.xSsns.length c4) (by simp))
  have HB := Lib.hid (HB.out.setCell (p := ⟨w.heap.size + 1 + 1, 4, none⟩) (by simp <;> omega) (.slice A4 x.xSsns.length c4))
  have FR0 := Lib.hid (FR0.out.set (g := w.heap.size + 1) (o := 0) (.int .i64 x.xStreams) (by simp))
  have FR1 := Lib.hid (FR1.out.set (g := w.heap.size + 1) (o := 0) (.int .i64 x.xStreams) (by simp))
  have FR2 := Lib.hid (FR2.out.set (g := w.heap.size + 1) (o := 0) (.int .i64 x.xStreams) (by simp))
  have HB := Lib.hid (HB.out.setCell (p := ⟨w.heap.size + 1, 0, none⟩) (by simp <;> omega) (.int .i64 x.xStreams))
  have FR0 := Lib.hid (FR0.out.set (g := w.heap.size + 1) (o := 1) (.int .i64 x.xNext) (by simp))
  have FR1 := Lib.hid (FR1.out.set (g := w.heap.size + 1) (o := 1) (.int .i64 x.xNext) (by simp))
  have FR2 := Lib.hid (FR2.out.set (g := w.heap.size + 1) (o := 1) (.int .i64 x.xNext) (by simp))
  have HB := Lib.hid (HB.out.setCell (p := ⟨w.heap.size + 1, 1, none⟩) (by simp <;> omega) (.int .i64 x.xNext))
  have FR0 := Lib.hid (FR0.out.set (g := w.heap.size + 1) (o := 2) (.slice A2 x.xFlight.length c2) (by simp))
  have FR1 := Lib.hid (FR1.out.set (g := w.heap.size + 1) (o := 2) (.slice A2 x.xFlight.length c2) (by simp))
  have FR2 := Lib.hid (FR2.out.set (g := w.heap.size + 1) (o := 2) (.slice A2 x.xFlight.length c2) (by simp))
  have HB := Lib.hid (HB.out.setCell (p := ⟨w.heap.size + 1, 2, none⟩) (by simp <;> omega) (.slice A2 x.xFlight.length c2))
  have FR0 := Lib.hid (FR0.out.set (g := w.heap.size + 1) (o := 3) (.slice A3 x.xQueue.length c3) (by simp))
  have FR1 := Lib.hid (FR1.out.set (g := w.heap.size + 1) (o := 3) (.slice A3 x.xQueue.length c3) (by simp))
  have FR2 := Lib.hid (FR2.out.set (g := w.heap.size + 1) (o := 3) (.slice A3 x.xQueue.length c3) (by simp))
  have HB := Lib.hid (HB.out.setCell (p := ⟨w.heap.size + 1, 3, none⟩) (by simp <;> omega) (.slice A3 x.xQueue.length c3))
  have FR0 := Lib.hid (FR0.out.set (g := w.heap.size + 1) (o := 4) (.slice A4 x.xSsns.length c4) (by simp))
  have FR1 := Lib.hid (FR1.out.set (g := w.heap.size + 1) (o := 4) (.slice A4 x.xSsns.length c4) (by simp))
  have FR2 := Lib.hid (FR2.out.set (g := w.heap.size + 1) (o := 4) (.slice A4 x.xSsns.length c4) (by simp))
  have HB := Lib.hid (HB.out.setCell (p := ⟨w.heap.size + 1, 4, none⟩) (by simp <;> omega) (.slice A4 x.xSsns.length c4))
  clear KR
  go_wp2
  refine bodyPost_ret (v := .agg #[.int .i64 x.xStreams, .int .i64 x.xNext, .slice A2 x.xFlight.length c2, .slice A3 x.xQueue.length c3, .slice A4 x.xSsns.length c4]) (by simp [results, Try.results69, go_sem, rc0, rc1, rc2, rc3, rc4]) rfl ⟨[.int .i64 x.xStreams, .int .i64 x.xNext, .slice A2 x.xFlight.length c2, .slice A3 x.xQueue.length c3, .slice A4 x.xSsns.length c4], _, rfl, ⟨_, _, _, _, _, _, rfl, O2.out.keep ?_, O3.out.keep ?_, O4.out.keep ?_, rfl⟩, ?_, ?_⟩
  · exact (fun b hb => FR0.out.block b (O2.out.inside b hb) (by have h1 := (N0.out.2 b hb).1; simp only [List.mem_cons, List.not_mem_nil, or_false, not_or]; omega))
  · exact (fun b hb => FR1.out.block b (O3.out.inside b hb) (by have h1 := (N1.out.2 b hb).1; have h2 := S1.out; simp only [List.mem_cons, List.not_mem_nil, or_false, not_or]; omega))
  · exact (fun b hb => FR2.out.block b (O4.out.inside b hb) (by have h1 := (N2.out.2 b hb).1; have h2 := S2.out; simp only [List.mem_cons, List.not_mem_nil, or_false, not_or]; omega))
  · have h := ((N0.out.app N1.out (S1.out) Y1.out).app N2.out (by have := S2.out; omega) Y2.out)
    try simp only [List.append_assoc] at h ⊢
    exact h.mono (by omega) (by simp only [size_set]; omega)
  · exact HB.out

set_option maxHeartbeats 2000000 in
theorem eqDatOut_s (cs ds : List Value) (x : DDatOut) (w : World) (h : FDatOut w cs x) (k : FDatOut w ds x) (hz : zDatOut x ≤ 1048576) :
    Calls Try.prog 72 #[.agg cs.toArray, .agg ds.toArray] w fun e w' => e = .returned (.bool true) ∧ Below w.heap.size w w' := by
  obtain ⟨v2, v3, v4, rfl, h2, h3, h4⟩ := h
  obtain ⟨u2, u3, u4, rfl, k2, k3, k4⟩ := k
  simp only [zDatOut] at hz
  have Hz := Lib.hid hz
  clear hz
  have KA := Lib.hid ((Blk.new (w := w) (b := w.heap.size) #[.int .i64 x.xStreams, .int .i64 x.xNext, v2, v3, v4] 84 rfl).alloc (.cells #[.int .i64 x.xStreams, .int .i64 x.xNext, u2, u3, u4] 84))
  have KB := Lib.hid (Blk.new (w := w.alloc (.cells #[.int .i64 x.xStreams, .int .i64 x.xNext, v2, v3, v4] 84)) (b := w.heap.size + 1) #[.int .i64 x.xStreams, .int .i64 x.xNext, u2, u3, u4] 84 (by simp))
  have HB := Lib.hid (below2 w (.cells #[.int .i64 x.xStreams, .int .i64 x.xNext, v2, v3, v4] 84) (.cells #[.int .i64 x.xStreams, .int .i64 x.xNext, u2, u3, u4] 84))
  have H2 := Lib.hid h2
  have K2 := Lib.hid k2
  have H3 := Lib.hid h3
  have K3 := Lib.hid k3
  have H4 := Lib.hid h4
  have K4 := Lib.hid k4
  clear h2 k2 h3 k3 h4 k4
  go_enter Try.func72, Try.ntmps72
  go_wp2_with fail
  refine (eqDatSentS_s _ _ x.xFlight _ (H2.out.below (by exact HB.out)) (K2.out.below (by exact HB.out)) (by have := Hz.out; omega)).mono ?_
  rintro e w1 ⟨rfl, b1⟩
  have KA := Lib.hid (KA.out.keep b1)
  have KB := Lib.hid (KB.out.keep b1)
  have HB := Lib.hid (HB.out.trans (b1.mono HB.out.size))
  clear b1
  have ac3 := KA.out.at (i := 3) rfl
  have bc3 := KB.out.at (i := 3) rfl
  have ac4 := KA.out.at (i := 4) rfl
  have bc4 := KB.out.at (i := 4) rfl
  go_wp2_with fail
  refine (eqDatUnitS_s _ _ x.xQueue _ (H3.out.below (by exact HB.out)) (K3.out.below (by exact HB.out)) (by have := Hz.out; omega)).mono ?_
  rintro e w2 ⟨rfl, b2⟩
  clear ac3 bc3 ac4 bc4
  have KA := Lib.hid (KA.out.keep b2)
  have KB := Lib.hid (KB.out.keep b2)
  have HB := Lib.hid (HB.out.trans (b2.mono HB.out.size))
  clear b2
  have ac4 := KA.out.at (i := 4) rfl
  have bc4 := KB.out.at (i := 4) rfl
  go_wp2_with fail
  refine (eqIntS_s _ _ x.xSsns _ (H4.out.below (by exact HB.out)) (K4.out.below (by exact HB.out)) (by have := Hz.out; omega)).mono ?_
  rintro e w3 ⟨rfl, b3⟩
  clear ac4 bc4
  have KA := Lib.hid (KA.out.keep b3)
  have KB := Lib.hid (KB.out.keep b3)
  have HB := Lib.hid (HB.out.trans (b3.mono HB.out.size))
  clear b3
  go_wp2
  go_ret
  exact ⟨rfl, HB.out⟩

theorem cells_DatOut : Try.prog.cellsOf 98 = 5 := by kernel_rfl
set_option maxRecDepth 100000 in
theorem read_DatOut {H : Type} {enc : TypeId × Value → H} {w : World} {base : Nat} {spare : Nat → Bool} {held : Bool} (n : Nat) (cs : List Value) (y : DataW H × List MemPlace) (hcs : cs.length = 5)
    (h : DataW.trod enc Try.prog w base spare held n 98 cs = some y) : ∃ x : DDatOut, FDatOut w cs x := by
  obtain ⟨ys, n', _, _, _, hxl, hg⟩ := DataW.trod_struct Try.underlying98 h
  match cs, hcs with
  | [c0, c1, c2, c3, c4], _ =>
    match ys, hxl with
    | [y0, y1, y2, y3, y4], _ =>
      have h0 : DataW.trod enc Try.prog w base spare held n' 3 (([c0, c1, c2, c3, c4].drop 0).take (Try.prog.cellsOf 3)) = some y0 := hg 0 _ rfl
      have h1 : DataW.trod enc Try.prog w base spare held n' 3 (([c0, c1, c2, c3, c4].drop 1).take (Try.prog.cellsOf 3)) = some y1 := hg 1 _ rfl
      have h2 : DataW.trod enc Try.prog w base spare held n' 95 (([c0, c1, c2, c3, c4].drop 2).take (Try.prog.cellsOf 95)) = some y2 := hg 2 _ rfl
      have h3 : DataW.trod enc Try.prog w base spare held n' 96 (([c0, c1, c2, c3, c4].drop 3).take (Try.prog.cellsOf 96)) = some y3 := hg 3 _ rfl
      have h4 : DataW.trod enc Try.prog w base spare held n' 35 (([c0, c1, c2, c3, c4].drop 4).take (Try.prog.cellsOf 35)) = some y4 := hg 4 _ rfl
      simp only [cellsInt, cells_DatSentS, cells_DatUnitS, cellsInts, List.drop_zero, List.drop_succ_cons, List.take_succ_cons, List.take_zero] at h0 h1 h2 h3 h4
      obtain ⟨a0, rfl⟩ := intCell h0
      obtain ⟨a1, rfl⟩ := intCell h1
      obtain ⟨a2, g2⟩ := open_rds Try.underlying95 cells_DatSent (fun n cs y hc h => read_DatSent n cs y hc h) h2
      obtain ⟨a3, g3⟩ := open_rds Try.underlying96 cells_DatUnit (fun n cs y hc h => read_DatUnit n cs y hc h) h3
      obtain ⟨a4, g4⟩ := open_rdi h4
      exact ⟨⟨a0, a1, a2, a3, a4⟩, _, _, _, rfl, g2, g3, g4⟩
end Go.Proofs.Ythdjjgbjemaabaa
