/-
  Words and the laws' helpers of AspGate and of lists of it. (Written by wip/tools/gentype.py.)
-/
import Derived.Test.YthdjjgbjemaabaaKin
namespace Go.Proofs.Ythdjjgbjemaabaa
open Go.ChangeShapes Go.WideShapes Go.ChangeAt Go.RowKit
set_option linter.unusedVariables false
set_option linter.unusedSimpArgs false

structure DAspGate where
  xGate : Int
  xUp : Bool
  xActive : List Int
  xAsked : List Int
  xOff : List Int
  xJam : Int
def FAspGate (w : World) (cs : List Value) (x : DAspGate) : Prop := ∃ v2 v3 v4 : Value, cs = [.int .i64 x.xGate, .bool x.xUp, v2, v3, v4, .int .i64 x.xJam] ∧ RdI w v2 x.xActive ∧ RdI w v3 x.xAsked ∧ RdI w v4 x.xOff
def EAspGate (w : World) (f : List Nat) (cs : List Value) (x : DAspGate) : Prop := ∃ (v2 v3 v4 : Value) (f2 f3 f4 : List Nat), cs = [.int .i64 x.xGate, .bool x.xUp, v2, v3, v4, .int .i64 x.xJam] ∧ OwIn w f2 v2 x.xActive ∧ OwIn w f3 v3 x.xAsked ∧ OwIn w f4 v4 x.xOff ∧ f = f2 ++ f3 ++ f4
theorem FAspGate.below {w w' : World} {cs : List Value} {x : DAspGate} (h : FAspGate w cs x) (hb : Below w.heap.size w w') : FAspGate w' cs x := by
  obtain ⟨v2, v3, v4, rfl, h2, h3, h4⟩ := h
  exact ⟨v2, v3, v4, rfl, h2.below hb, h3.below hb, h4.below hb⟩
theorem EAspGate.framed : Framed EAspGate := by
  rintro w w' f cs x ⟨v2, v3, v4, f2, f3, f4, rfl, h2, h3, h4, rfl⟩ hb
  exact ⟨_, _, _, _, _, _, rfl, h2.keep (fun b h => hb b (by simp [h])), h3.keep (fun b h => hb b (by simp [h])), h4.keep (fun b h => hb b (by simp [h])), rfl⟩
theorem EAspGate.inside : Inside EAspGate := by
  rintro w f cs x ⟨v2, v3, v4, f2, f3, f4, rfl, h2, h3, h4, rfl⟩ b hb
  simp only [List.mem_append] at hb
  rcases hb with (hb | hb) | hb
  · exact h2.inside b hb
  · exact h3.inside b hb
  · exact h4.inside b hb
theorem EAspGate.rd {w : World} {f : List Nat} {cs : List Value} {x : DAspGate} (h : EAspGate w f cs x) : FAspGate w cs x := by
  obtain ⟨v2, v3, v4, f2, f3, f4, rfl, h2, h3, h4, rfl⟩ := h
  exact ⟨v2, v3, v4, rfl, h2.rd, h3.rd, h4.rd⟩
abbrev RdAspGateS (w : World) (v : Value) (xs : List DAspGate) : Prop := RdS 6 FAspGate w v xs
def OwAspGateS (w : World) (f : List Nat) (v : Value) (xs : List DAspGate) : Prop := OwL 153 6 EAspGate w f v xs
theorem RdAspGateS.below {w w' : World} {v : Value} {xs : List DAspGate} (h : RdAspGateS w v xs) (hb : Below w.heap.size w w') : RdAspGateS w' v xs := RdS.below (fun _ _ h => h.below hb) h hb
theorem RdAspGateS.slice {w : World} {v : Value} {xs : List DAspGate} (h : RdAspGateS w v xs) : ∃ A c, v = .slice A xs.length c := RdS.slice h
theorem OwAspGateS.keep {w w' : World} {f : List Nat} {v : Value} {xs : List DAspGate} (h : OwAspGateS w f v xs) (hb : ∀ b ∈ f, w'.heap[b]? = w.heap[b]?) : OwAspGateS w' f v xs := OwL.keep EAspGate.framed h hb
theorem OwAspGateS.inside {w : World} {f : List Nat} {v : Value} {xs : List DAspGate} (h : OwAspGateS w f v xs) : ∀ b ∈ f, b < w.heap.size := OwL.inside EAspGate.inside h
theorem OwAspGateS.rd {w : World} {f : List Nat} {v : Value} {xs : List DAspGate} (h : OwAspGateS w f v xs) : RdAspGateS w v xs := OwL.rd (fun _ _ _ h => h.rd) h
def zAspGate (x : DAspGate) : Nat := x.xActive.length + x.xAsked.length + x.xOff.length

set_option maxHeartbeats 1000000 in
theorem szAspGate_z (cs : List Value) (x : DAspGate) (left : Int) (w : World) (h : FAspGate w cs x) (hl : 0 ≤ left ∧ left ≤ 1048576) :
    Calls Try.prog 225 #[.agg cs.toArray, .int .i64 left] w fun e w' => e = .returned (.int .i64 (szR left (zAspGate x))) ∧ Below w.heap.size w w' := by
  obtain ⟨v2, v3, v4, rfl, h2, h3, h4⟩ := h
  have Hz := Lib.hid (show zAspGate x = x.xActive.length + x.xAsked.length + x.xOff.length from rfl)
  generalize zAspGate x = zx at Hz ⊢
  have K := Lib.hid (Blk.new (w := w) (b := w.heap.size) #[.int .i64 x.xGate, .bool x.xUp, v2, v3, v4, .int .i64 x.xJam] 255 rfl)
  have HB := Lib.hid ((Below.refl w.heap.size w).alloc (Nat.le_refl _) (.cells #[.int .i64 x.xGate, .bool x.xUp, v2, v3, v4, .int .i64 x.xJam] 255))
  have H2 := Lib.hid h2
  have H3 := Lib.hid h3
  have H4 := Lib.hid h4
  clear h2 h3 h4
  go_enter Try.func225, Try.ntmps225
  go_wp2_with fail
  refine (szIntS_z _ x.xActive _ _ (H2.out.below HB.out) ⟨by omega, by omega⟩).mono ?_
  rintro e w1 ⟨rfl, b1⟩
  have K := Lib.hid (K.out.keep b1)
  have HB := Lib.hid (HB.out.trans (b1.mono HB.out.size))
  clear b1
  have hr0 := szR_cases left (x.xActive.length) (by omega)
  generalize szR left (x.xActive.length) = r0 at *
  rcases hr0 with ⟨rfl, hr0⟩ | ⟨hr0, hs0, ht0⟩
  · have Q := Lib.hid hr0
    go_wp2
    go_ret
    refine ⟨retI ?_, HB.out⟩
    have hz := Hz.out
    have hq := Q.out
    rw [szR_no (by omega)]
  have pc3 := K.out.at (i := 3) rfl
  go_wp2_with fail
  refine (szIntS_z _ x.xAsked _ _ (H3.out.below HB.out) ⟨by omega, by omega⟩).mono ?_
  rintro e w2 ⟨rfl, b2⟩
  clear pc3
  have K := Lib.hid (K.out.keep b2)
  have HB := Lib.hid (HB.out.trans (b2.mono HB.out.size))
  clear b2
  have hr1 := szR_cases r0 (x.xAsked.length) (by omega)
  generalize szR r0 (x.xAsked.length) = r1 at *
  rcases hr1 with ⟨rfl, hr1⟩ | ⟨hr1, hs1, ht1⟩
  · have Q := Lib.hid hr1
    have T0 := Lib.hid ht0
    go_wp2
    go_ret
    refine ⟨retI ?_, HB.out⟩
    have hz := Hz.out
    have hq := Q.out
    have t0 := T0.out
    rw [szR_no (by omega)]
  have pc4 := K.out.at (i := 4) rfl
  go_wp2_with fail
  refine (szIntS_z _ x.xOff _ _ (H4.out.below HB.out) ⟨by omega, by omega⟩).mono ?_
  rintro e w3 ⟨rfl, b3⟩
  clear pc4
  have K := Lib.hid (K.out.keep b3)
  have HB := Lib.hid (HB.out.trans (b3.mono HB.out.size))
  clear b3
  have hr2 := szR_cases r1 (x.xOff.length) (by omega)
  generalize szR r1 (x.xOff.length) = r2 at *
  rcases hr2 with ⟨rfl, hr2⟩ | ⟨hr2, hs2, ht2⟩
  · have Q := Lib.hid hr2
    have T0 := Lib.hid ht0
    have T1 := Lib.hid ht1
    go_wp2
    go_ret
    refine ⟨retI ?_, HB.out⟩
    have hz := Hz.out
    have hq := Q.out
    have t0 := T0.out
    have t1 := T1.out
    rw [szR_no (by omega)]
  have hz := Hz.out
  have Hf := Lib.hid (show szR left zx = r2 by rw [szR_yes (by omega)]; omega)
  clear hz
  go_wp2
  go_ret
  exact ⟨retI Hf.out.symm, HB.out⟩

set_option maxRecDepth 100000 in
set_option maxHeartbeats 2000000 in
theorem toAspGate_n (cs : List Value) (x : DAspGate) (w : World) (h : FAspGate w cs x) (hz : zAspGate x ≤ 1048576) :
    Calls Try.prog 226 #[.agg cs.toArray] w fun e w' => ∃ cs' f, e = .returned (.agg cs'.toArray) ∧ EAspGate w' f cs' x ∧ Nw w.heap.size w'.heap.size f ∧ Below w.heap.size w w' := by
  obtain ⟨v2, v3, v4, rfl, h2, h3, h4⟩ := h
  simp only [zAspGate] at hz
  have H2 := Lib.hid h2
  have H3 := Lib.hid h3
  have H4 := Lib.hid h4
  clear h2 h3 h4
  have Hz := Lib.hid hz
  clear hz
  have KA := Lib.hid (((Blk.new (w := w) (b := w.heap.size) #[.int .i64 x.xGate, .bool x.xUp, v2, v3, v4, .int .i64 x.xJam] 255 rfl).alloc (.cells #[.int .i64 0, .bool false, .slice none 0 0, .slice none 0 0, .slice none 0 0, .int .i64 0] 153)).alloc (.cells #[.int .i64 x.xGate, .bool x.xUp, .slice none 0 0, .slice none 0 0, .slice none 0 0, .int .i64 0] 153))
  have KR := Lib.hid ((Blk.new (w := w.alloc (.cells #[.int .i64 x.xGate, .bool x.xUp, v2, v3, v4, .int .i64 x.xJam] 255)) (b := w.heap.size + 1) #[.int .i64 0, .bool false, .slice none 0 0, .slice none 0 0, .slice none 0 0, .int .i64 0] 153 (by simp)).alloc (.cells #[.int .i64 x.xGate, .bool x.xUp, .slice none 0 0, .slice none 0 0, .slice none 0 0, .int .i64 0] 153))
  have KO := Lib.hid (Blk.new (w := (w.alloc (.cells #[.int .i64 x.xGate, .bool x.xUp, v2, v3, v4, .int .i64 x.xJam] 255)).alloc (.cells #[.int .i64 0, .bool false, .slice none 0 0, .slice none 0 0, .slice none 0 0, .int .i64 0] 153)) (b := w.heap.size + 1 + 1) #[.int .i64 x.xGate, .bool x.xUp, .slice none 0 0, .slice none 0 0, .slice none 0 0, .int .i64 0] 153 (by simp))
  have HB := Lib.hid (below3 w (.cells #[.int .i64 x.xGate, .bool x.xUp, v2, v3, v4, .int .i64 x.xJam] 255) (.cells #[.int .i64 0, .bool false, .slice none 0 0, .slice none 0 0, .slice none 0 0, .int .i64 0] 153) (.cells #[.int .i64 x.xGate, .bool x.xUp, .slice none 0 0, .slice none 0 0, .slice none 0 0, .int .i64 0] 153))
  have HS : w.heap.size + 3 ≤ (((w.alloc (.cells #[.int .i64 x.xGate, .bool x.xUp, v2, v3, v4, .int .i64 x.xJam] 255)).alloc (.cells #[.int .i64 0, .bool false, .slice none 0 0, .slice none 0 0, .slice none 0 0, .int .i64 0] 153)).alloc (.cells #[.int .i64 x.xGate, .bool x.xUp, .slice none 0 0, .slice none 0 0, .slice none 0 0, .int .i64 0] 153)).heap.size := by simp
  go_enter Try.func226, Try.ntmps226
  go_wp2_with fail
  refine (toIntS_n _ x.xActive _ (H2.out.below (by exact HB.out)) (by have := Hz.out; omega)).mono ?_
  rintro e w1 ⟨u2, g2, rfl, o2, n2, b1⟩
  obtain ⟨A2, c2, rfl⟩ := o2.rd.slice
  have KA := Lib.hid (KA.out.keep b1)
  have KR := Lib.hid (KR.out.keep b1)
  have KO := Lib.hid (KO.out.keep b1)
  have HS : w.heap.size + 3 ≤ w1.heap.size := Nat.le_trans HS b1.size
  have S1 := Lib.hid HS
  have FR0 := Lib.hid (FrL.refl [w.heap.size + 1, w.heap.size + 1 + 1] w1)
  have HB := Lib.hid (HB.out.trans (b1.mono HB.out.size))
  have O2 := Lib.hid o2
  have N0 := Lib.hid (n2.mono (lo' := w.heap.size + 3) (by simp) (Nat.le_refl _))
  clear o2 n2 b1
  have ac0 := KA.out.at (i := 0) rfl
  have oc0 := KO.out.at (i := 0) rfl
  have ac1 := KA.out.at (i := 1) rfl
  have oc1 := KO.out.at (i := 1) rfl
  have ac2 := KA.out.at (i := 2) rfl
  have oc2 := KO.out.at (i := 2) rfl
  have of2 := KO.out.frozen 2
  have ac3 := KA.out.at (i := 3) rfl
  have oc3 := KO.out.at (i := 3) rfl
  have ac4 := KA.out.at (i := 4) rfl
  have oc4 := KO.out.at (i := 4) rfl
  have ac5 := KA.out.at (i := 5) rfl
  have oc5 := KO.out.at (i := 5) rfl
  have KA := Lib.hid (KA.out.far (b' := w.heap.size + 1 + 1) (o := 2) (v := .slice A2 x.xActive.length c2) (by omega))
  have KR := Lib.hid (KR.out.far (b' := w.heap.size + 1 + 1) (o := 2) (v := .slice A2 x.xActive.length c2) (by omega))
  have KO := Lib.hid (KO.out.set (i := 2) (v := .slice A2 x.xActive.length c2) (by simp))
  have FR0 := Lib.hid (FR0.out.set (g := w.heap.size + 1 + 1) (o := 2) (.slice A2 x.xActive.length c2) (by simp))
  have HB := Lib.hid (HB.out.setCell (p := ⟨w.heap.size + 1 + 1, 2, none⟩) (by simp <;> omega) (.slice A2 x.xActive.length c2))
  have HS : w.heap.size + 3 ≤ ((w1.setCell ⟨w.heap.size + 1 + 1, 2, none⟩ (.slice A2 x.xActive.length c2))).heap.size := by simpa [size_set] using HS
  go_wp2_with fail
  clear ac0 oc0 ac1 oc1 ac2 oc2 ac3 oc3 ac4 oc4 ac5 oc5 of2
  refine (toIntS_n _ x.xAsked _ (H3.out.below (by exact HB.out)) (by have := Hz.out; omega)).mono ?_
  rintro e w2 ⟨u3, g3, rfl, o3, n3, b2⟩
  obtain ⟨A3, c3, rfl⟩ := o3.rd.slice
  have KA := Lib.hid (KA.out.keep b2)
  have KR := Lib.hid (KR.out.keep b2)
  have KO := Lib.hid (KO.out.keep b2)
  have HS : w.heap.size + 3 ≤ w2.heap.size := Nat.le_trans HS b2.size
  have S2 := Lib.hid HS
  have Y1 := Lib.hid (show w1.heap.size ≤ w2.heap.size by have := b2.size; simpa [size_set] using this)
  have FR0 := Lib.hid (FR0.out.trans (FrL.of_below b2))
  have FR1 := Lib.hid (FrL.refl [w.heap.size + 1, w.heap.size + 1 + 1] w2)
  have HB := Lib.hid (HB.out.trans (b2.mono HB.out.size))
  have O3 := Lib.hid o3
  have N1 := Lib.hid (n3.mono (lo' := w1.heap.size) (by simp [size_set]) (Nat.le_refl _))
  clear o3 n3 b2
  have ac0 := KA.out.at (i := 0) rfl
  have oc0 := KO.out.at (i := 0) rfl
  have ac1 := KA.out.at (i := 1) rfl
  have oc1 := KO.out.at (i := 1) rfl
  have ac2 := KA.out.at (i := 2) rfl
  have oc2 := KO.out.at (i := 2) rfl
  have ac3 := KA.out.at (i := 3) rfl
  have oc3 := KO.out.at (i := 3) rfl
  have of3 := KO.out.frozen 3
  have ac4 := KA.out.at (i := 4) rfl
  have oc4 := KO.out.at (i := 4) rfl
  have ac5 := KA.out.at (i := 5) rfl
  have oc5 := KO.out.at (i := 5) rfl
  have KA := Lib.hid (KA.out.far (b' := w.heap.size + 1 + 1) (o := 3) (v := .slice A3 x.xAsked.length c3) (by omega))
  have KR := Lib.hid (KR.out.far (b' := w.heap.size + 1 + 1) (o := 3) (v := .slice A3 x.xAsked.length c3) (by omega))
  have KO := Lib.hid (KO.out.set (i := 3) (v := .slice A3 x.xAsked.length c3) (by simp))
  have FR0 := Lib.hid (FR0.out.set (g := w.heap.size + 1 + 1) (o := 3) (.slice A3 x.xAsked.length c3) (by simp))
  have FR1 := Lib.hid (FR1.out.set (g := w.heap.size + 1 + 1) (o := 3) (.slice A3 x.xAsked.length c3) (by simp))
  have HB := Lib.hid (HB.out.setCell (p := ⟨w.heap.size + 1 + 1, 3, none⟩) (by simp <;> omega) (.slice A3 x.xAsked.length c3))
  have HS : w.heap.size + 3 ≤ ((w2.setCell ⟨w.heap.size + 1 + 1, 3, none⟩ (.slice A3 x.xAsked.length c3))).heap.size := by simpa [size_set] using HS
  go_wp2_with fail
  clear ac0 oc0 ac1 oc1 ac2 oc2 ac3 oc3 ac4 oc4 ac5 oc5 of3
  refine (toIntS_n _ x.xOff _ (H4.out.below (by exact HB.out)) (by have := Hz.out; omega)).mono ?_
  rintro e w3 ⟨u4, g4, rfl, o4, n4, b3⟩
  obtain ⟨A4, c4, rfl⟩ := o4.rd.slice
  have KA := Lib.hid (KA.out.keep b3)
  have KR := Lib.hid (KR.out.keep b3)
  have KO := Lib.hid (KO.out.keep b3)
  have HS : w.heap.size + 3 ≤ w3.heap.size := Nat.le_trans HS b3.size
  have S3 := Lib.hid HS
  have Y2 := Lib.hid (show w2.heap.size ≤ w3.heap.size by have := b3.size; simpa [size_set] using this)
  have FR0 := Lib.hid (FR0.out.trans (FrL.of_below b3))
  have FR1 := Lib.hid (FR1.out.trans (FrL.of_below b3))
  have FR2 := Lib.hid (FrL.refl [w.heap.size + 1, w.heap.size + 1 + 1] w3)
  have HB := Lib.hid (HB.out.trans (b3.mono HB.out.size))
  have O4 := Lib.hid o4
  have N2 := Lib.hid (n4.mono (lo' := w2.heap.size) (by simp [size_set]) (Nat.le_refl _))
  clear o4 n4 b3
  have ac0 := KA.out.at (i := 0) rfl
  have oc0 := KO.out.at (i := 0) rfl
  have rc0 := KR.out.at (i := 0) rfl
  have rf0 := KR.out.frozen 0
  have ac1 := KA.out.at (i := 1) rfl
  have oc1 := KO.out.at (i := 1) rfl
  have rc1 := KR.out.at (i := 1) rfl
  have rf1 := KR.out.frozen 1
  have ac2 := KA.out.at (i := 2) rfl
  have oc2 := KO.out.at (i := 2) rfl
  have rc2 := KR.out.at (i := 2) rfl
  have rf2 := KR.out.frozen 2
  have ac3 := KA.out.at (i := 3) rfl
  have oc3 := KO.out.at (i := 3) rfl
  have rc3 := KR.out.at (i := 3) rfl
  have rf3 := KR.out.frozen 3
  have ac4 := KA.out.at (i := 4) rfl
  have oc4 := KO.out.at (i := 4) rfl
  have of4 := KO.out.frozen 4
  have rc4 := KR.out.at (i := 4) rfl
  have rf4 := KR.out.frozen 4
  have ac5 := KA.out.at (i := 5) rfl
  have oc5 := KO.out.at (i := 5) rfl
  have of5 := KO.out.frozen 5
  have rc5 := KR.out.at (i := 5) rfl
  have rf5 := KR.out.frozen 5
  have KA := Lib.hid (KA.out.far (b' := w.heap.size + 1 + 1) (o := 4) (v := .slice A4 x.xOff.length c4) (by omega))
  have KR := Lib.hid (KR.out.far (b' := w.heap.size + 1 + 1) (o := 4) (v := .slice A4 x.xOff.length c4) (by omega))
  have KO := Lib.hid (KO.out.set (i := 4) (v := .slice A4 x.xOff.length c4) (by simp))
  have FR0 := Lib.hid (FR0.out.set (g := w.heap.size + 1 + 1) (o := 4) (.slice A4 x.xOff.length c4) (by simp))
  have FR1 := Lib.hid (FR1.out.set (g := w.heap.size + 1 + 1) (o := 4) (.slice A4 x.xOff.length c4) (by simp))
  have FR2 := Lib.hid (FR2.out.set (g := w.heap.size + 1 + 1) (o := 4) (.slice A4 x.xOff.length c4) (by simp))
  have HB := Lib.hid (HB.out.setCell (p := ⟨w.heap.size + 1 + 1, 4, none⟩) (by simp <;> omega) (.slice A4 x.xOff.length c4))
  have KA := Lib.hid (KA.out.far (b' := w.heap.size + 1 + 1) (o := 5) (v := .int .i64 x.xJam) (by omega))
  have KR := Lib.hid (KR.out.far (b' := w.heap.size + 1 + 1) (o := 5) (v := .int .i64 x.xJam) (by omega))
  have KO := Lib.hid (KO.out.set (i := 5) (v := .int .i64 x.xJam) (by simp))
  have FR0 := Lib.hid (FR0.out.set (g := w.heap.size + 1 + 1) (o := 5) (.int .i64 x.xJam) (by simp))
  have FR1 := Lib.hid (FR1.out.set (g := w.heap.size + 1 + 1) (o := 5) (.int .i64 x.xJam) (by simp))
  have FR2 := Lib.hid (FR2.out.set (g := w.heap.size + 1 + 1) (o := 5) (.int .i64 x.xJam) (by simp))
  have HB := Lib.hid (HB.out.setCell (p := ⟨w.heap.size + 1 + 1, 5, none⟩) (by simp <;> omega) (.int .i64 x.xJam))
  have FR0 := Lib.hid (FR0.out.set (g := w.heap.size + 1) (o := 0) (.int .i64 x.xGate) (by simp))
  have FR1 := Lib.hid (FR1.out.set (g := w.heap.size + 1) (o := 0) (.int .i64 x.xGate) (by simp))
  have FR2 := Lib.hid (FR2.out.set (g := w.heap.size + 1) (o := 0) (.int .i64 x.xGate) (by simp))
  have HB := Lib.hid (HB.out.setCell (p := ⟨w.heap.size + 1, 0, none⟩) (by simp <;> omega) (.int .i64 x.xGate))
  have FR0 := Lib.hid (FR0.out.set (g := w.heap.size + 1) (o := 1) (.bool x.xUp) (by simp))
  have FR1 := Lib.hid (FR1.out.set (g := w.heap.size + 1) (o := 1) (.bool x.xUp) (by simp))
  have FR2 := Lib.hid (FR2.out.set (g := w.heap.size + 1) (o := 1) (.bool x.xUp) (by simp))
  have HB := Lib.hid (HB.out.setCell (p := ⟨w.heap.size + 1, 1, none⟩) (by simp <;> omega) (.bool x.xUp))
  have FR0 := Lib.hid (FR0.out.set (g := w.heap.size + 1) (o := 2) (.slice A2 x.xActive.length c2) (by simp))
  have FR1 := Lib.hid (FR1.out.set (g := w.heap.size + 1) (o := 2) (.slice A2 x.xActive.length c2) (by simp))
  have FR2 := Lib.hid (FR2.out.set (g := w.heap.size + 1) (o := 2) (.slice A2 x.xActive.length c2) (by simp))
  have HB := Lib.hid (HB.out.setCell (p := ⟨w.heap.size + 1, 2, none⟩) (by simp <;> omega) (.slice A2 x.xActive.length c2))
  have FR0 := Lib.hid (FR0.out.set (g := w.heap.size + 1) (o := 3) (.slice A3 x.xAsked.length c3) (by simp))
  have FR1 := Lib.hid (FR1.out.set (g := w.heap.size + 1) (o := 3) (.slice A3 x.xAsked.length c3) (by simp))
  have FR2 := Lib.hid (FR2.out.set (g := w.heap.size + 1) (o := 3) (.slice A3 x.xAsked.length c3) (by simp))
  have HB := Lib.hid (HB.out.setCell (p := ⟨w.heap.size + 1, 3, none⟩) (by simp <;> omega) (.slice A3 x.xAsked.length c3))
  have FR0 := Lib.hid (FR0.out.set (g := w.heap.size + 1) (o := 4) (.slice A4 x.xOff.length c4) (by simp))
  have FR1 := Lib.hid (FR1.out.set (g := w.heap.size + 1) (o := 4) (.slice A4 x.xOff.length c4) (by simp))
  have FR2 := Lib.hid (FR2.out.set (g := w.heap.size + 1) (o := 4) (.slice A4 x.xOff.length c4) (by simp))
  have HB := Lib.hid (HB.out.setCell (p := ⟨w.heap.size + 1, 4, none⟩) (by simp <;> omega) (.slice A4 x.xOff.length c4))
  have FR0 := Lib.hid (FR0.out.set (g := w.heap.size + 1) (o := 5) (.int .i64 x.xJam) (by simp))
  have FR1 := Lib.hid (FR1.out.set (g := w.heap.size + 1) (o := 5) (.int .i64 x.xJam) (by simp))
  have FR2 := Lib.hid (FR2.out.set (g := w.heap.size + 1) (o := 5) (.int .i64 x.xJam) (by simp))
  have HB := Lib.hid (HB.out.setCell (p := ⟨w.heap.size + 1, 5, none⟩) (by simp <;> omega) (.int .i64 x.xJam))
  clear KR
  go_wp2
  refine bodyPost_ret (v := .agg #[.int .i64 x.xGate, .bool x.xUp, .slice A2 x.xActive.length c2, .slice A3 x.xAsked.length c3, .slice A4 x.xOff.length c4, .int .i64 x.xJam]) (by simp [results, Try.results226, go_sem, rc0, rc1, rc2, rc3, rc4, rc5]) rfl ⟨[.int .i64 x.xGate, .bool x.xUp, .slice A2 x.xActive.length c2, .slice A3 x.xAsked.length c3, .slice A4 x.xOff.length c4, .int .i64 x.xJam], _, rfl, ⟨_, _, _, _, _, _, rfl, O2.out.keep ?_, O3.out.keep ?_, O4.out.keep ?_, rfl⟩, ?_, ?_⟩
  · exact (fun b hb => FR0.out.block b (O2.out.inside b hb) (by have h1 := (N0.out.2 b hb).1; simp only [List.mem_cons, List.not_mem_nil, or_false, not_or]; omega))
  · exact (fun b hb => FR1.out.block b (O3.out.inside b hb) (by have h1 := (N1.out.2 b hb).1; have h2 := S1.out; simp only [List.mem_cons, List.not_mem_nil, or_false, not_or]; omega))
  · exact (fun b hb => FR2.out.block b (O4.out.inside b hb) (by have h1 := (N2.out.2 b hb).1; have h2 := S2.out; simp only [List.mem_cons, List.not_mem_nil, or_false, not_or]; omega))
  · have h := ((N0.out.app N1.out (S1.out) Y1.out).app N2.out (by have := S2.out; omega) Y2.out)
    try simp only [List.append_assoc] at h ⊢
    exact h.mono (by omega) (by simp only [size_set]; omega)
  · exact HB.out

set_option maxHeartbeats 2000000 in
theorem eqAspGate_s (cs ds : List Value) (x : DAspGate) (w : World) (h : FAspGate w cs x) (k : FAspGate w ds x) (hz : zAspGate x ≤ 1048576) :
    Calls Try.prog 224 #[.agg cs.toArray, .agg ds.toArray] w fun e w' => e = .returned (.bool true) ∧ Below w.heap.size w w' := by
  obtain ⟨v2, v3, v4, rfl, h2, h3, h4⟩ := h
  obtain ⟨u2, u3, u4, rfl, k2, k3, k4⟩ := k
  simp only [zAspGate] at hz
  have Hz := Lib.hid hz
  clear hz
  have KA := Lib.hid ((Blk.new (w := w) (b := w.heap.size) #[.int .i64 x.xGate, .bool x.xUp, v2, v3, v4, .int .i64 x.xJam] 153 rfl).alloc (.cells #[.int .i64 x.xGate, .bool x.xUp, u2, u3, u4, .int .i64 x.xJam] 153))
  have KB := Lib.hid (Blk.new (w := w.alloc (.cells #[.int .i64 x.xGate, .bool x.xUp, v2, v3, v4, .int .i64 x.xJam] 153)) (b := w.heap.size + 1) #[.int .i64 x.xGate, .bool x.xUp, u2, u3, u4, .int .i64 x.xJam] 153 (by simp))
  have HB := Lib.hid (below2 w (.cells #[.int .i64 x.xGate, .bool x.xUp, v2, v3, v4, .int .i64 x.xJam] 153) (.cells #[.int .i64 x.xGate, .bool x.xUp, u2, u3, u4, .int .i64 x.xJam] 153))
  have H2 := Lib.hid h2
  have K2 := Lib.hid k2
  have H3 := Lib.hid h3
  have K3 := Lib.hid k3
  have H4 := Lib.hid h4
  have K4 := Lib.hid k4
  clear h2 k2 h3 k3 h4 k4
  go_enter Try.func224, Try.ntmps224
  go_wp2_with fail
  refine (eqIntS_s _ _ x.xActive _ (H2.out.below (by exact HB.out)) (K2.out.below (by exact HB.out)) (by have := Hz.out; omega)).mono ?_
  rintro e w1 ⟨rfl, b1⟩
  have KA := Lib.hid (KA.out.keep b1)
  have KB := Lib.hid (KB.out.keep b1)
  have HB := Lib.hid (HB.out.trans (b1.mono HB.out.size))
  clear b1
  have ac3 := KA.out.at (i := 3) rfl
  have bc3 := KB.out.at (i := 3) rfl
  have ac4 := KA.out.at (i := 4) rfl
  have bc4 := KB.out.at (i := 4) rfl
  have ac5 := KA.out.at (i := 5) rfl
  have bc5 := KB.out.at (i := 5) rfl
  go_wp2_with fail
  refine (eqIntS_s _ _ x.xAsked _ (H3.out.below (by exact HB.out)) (K3.out.below (by exact HB.out)) (by have := Hz.out; omega)).mono ?_
  rintro e w2 ⟨rfl, b2⟩
  clear ac3 bc3 ac4 bc4 ac5 bc5
  have KA := Lib.hid (KA.out.keep b2)
  have KB := Lib.hid (KB.out.keep b2)
  have HB := Lib.hid (HB.out.trans (b2.mono HB.out.size))
  clear b2
  have ac4 := KA.out.at (i := 4) rfl
  have bc4 := KB.out.at (i := 4) rfl
  have ac5 := KA.out.at (i := 5) rfl
  have bc5 := KB.out.at (i := 5) rfl
  go_wp2_with fail
  refine (eqIntS_s _ _ x.xOff _ (H4.out.below (by exact HB.out)) (K4.out.below (by exact HB.out)) (by have := Hz.out; omega)).mono ?_
  rintro e w3 ⟨rfl, b3⟩
  clear ac4 bc4 ac5 bc5
  have KA := Lib.hid (KA.out.keep b3)
  have KB := Lib.hid (KB.out.keep b3)
  have HB := Lib.hid (HB.out.trans (b3.mono HB.out.size))
  clear b3
  have ac5 := KA.out.at (i := 5) rfl
  have bc5 := KB.out.at (i := 5) rfl
  go_wp2
  go_ret
  exact ⟨rfl, HB.out⟩

set_option maxHeartbeats 1000000 in
theorem szAspGateS_z (v : Value) (xs : List DAspGate) (left : Int) (w : World) (hv : RdAspGateS w v xs) (hl : 0 ≤ left ∧ left ≤ 1048576) :
    Calls Try.prog 119 #[v, .int .i64 left] w fun e w' => e = .returned (.int .i64 (szR left (zL zAspGate xs))) ∧ Below w.heap.size w w' := by
  obtain ⟨A, c, rfl⟩ := RdS.slice hv
  have hc := RdS.cap hv
  have hzl : zL zAspGate xs = xs.length + szL zAspGate xs := rfl
  generalize zL zAspGate xs = zx at *
  generalize hl' : xs.length = n at *
  have Hl := Lib.hid hl'
  have Hv := Lib.hid hv
  have Hz := Lib.hid hzl
  clear hl' hv hzl
  by_cases hn : (n : Int) ≤ left
  · go_enter Try.func119, Try.ntmps119
    go_wp2
    go_loopw [1, 5] (fun q i w1 => ∃ (j : Nat) (l : Int), j ≤ n ∧ i = .int .i64 j ∧ q = .int .i64 l ∧ 0 ≤ l ∧ l ≤ 1048576 ∧ l + szL zAspGate (xs.take j) + n = left ∧ Below w.heap.size w w1) (fun _ i _ => n - (intOf i).toNat)
    case atStart => exact ⟨0, left - n, by omega, rfl, rfl, by omega, by omega, by simp [szL], Below.refl _ _⟩
    case round =>
      obtain ⟨j, l, hj, rfl, rfl, hl0, hl1, hb, hw⟩ := hrel
      have Hb := Lib.hid hb
      have Hw := Lib.hid hw
      clear hb hw
      by_cases hlt : j < n
      · obtain ⟨ad, cs, hk, rfl, hcl, hca, hE⟩ := RdS.at_ (Hv.out.below Hw.out) hlt
        have HE := Lib.hid hE
        obtain ⟨v2, v3, v4, rfl, h2, h3, h4⟩ := hE
        have c0 := hca.c0
        have c1 := hca.ci 0 rfl
        have c2 := hca.ci 1 rfl
        have c3 := hca.ci 2 rfl
        have c4 := hca.ci 3 rfl
        have c5 := hca.ci 4 rfl
        clear hca hcl h2 h3 h4
        have hr := szR_cases l (zAspGate xs[j]) (by omega)
        go_wp2_with fail
        refine (szAspGate_z _ xs[j] _ _ HE.out ⟨hl0, hl1⟩).mono ?_
        rintro e w2 ⟨rfl, hb2⟩
        have Hb2 := Lib.hid (Hw.out.trans (hb2.mono Hw.out.size))
        clear hb2 c0 c1 c2 c3 c4 c5
        have Hx := Lib.hid (szL_take_succ (sz := zAspGate) hk)
        have Hy := Lib.hid (szL_take_le (sz := zAspGate) (xs := xs) (j + 1))
        generalize szR l (zAspGate xs[j]) = r at *
        rcases hr with ⟨rfl, hr⟩ | ⟨h1, h2, h3⟩
        · have Hr := Lib.hid hr
          clear hr
          go_wp2
          go_ret
          refine ⟨retI ?_, Hb2.out⟩
          have h4 := Hb.out
          have h5 := Hx.out
          have h6 := Hy.out
          have h7 := Hz.out
          have h8 := Hr.out
          rw [szR_no (by omega)]
        · have H3 := Lib.hid h3
          clear h3
          go_wp2
          refine ⟨⟨j + 1, r, by omega, by go_num, rfl, h1, h2, ?_, Hb2.out⟩, by simp [intOf]; omega⟩
          have h4 := Hb.out
          have h5 := H3.out
          rw [Hx.out]
          omega
      · have : j = n := by omega
        subst this
        have hf : szR left zx = l := by
          have h4 := Hb.out
          have h7 := Hz.out
          rw [List.take_of_length_le (by rw [Hl.out]; omega)] at h4
          rw [szR_yes (by omega)]; omega
        have Hf := Lib.hid hf
        clear hf
        go_wp2
        go_ret
        exact ⟨retI Hf.out.symm, Hw.out⟩
  · have hf : szR left zx = -1 := by have h7 := Hz.out; rw [szR_no (by omega)]
    have Hf := Lib.hid hf
    clear hf
    go_enter Try.func119, Try.ntmps119
    go_wp2
    go_ret
    exact ⟨retI Hf.out.symm, Below.refl _ _⟩
theorem info_AspGate : (Try.prog.info? 153).map (fun i => (i.zero, i.size)) = some (some (.agg #[.int .i64 0, .bool false, .slice none 0 0, .slice none 0 0, .slice none 0 0, .int .i64 0]), 6) := by kernel_rfl
theorem infob_AspGate : (match Try.prog.info? 153 with | some i => decide (i.bytes ≤ 4096) | none => false) = true := by kernel_rfl

set_option maxRecDepth 100000 in
set_option maxHeartbeats 1000000 in
theorem toAspGateS_n (v : Value) (xs : List DAspGate) (w : World) (hv : RdAspGateS w v xs) (hz : zL zAspGate xs ≤ 1048576) :
    Calls Try.prog 121 #[v] w fun e w' => ∃ v' f, e = .returned v' ∧ OwAspGateS w' f v' xs ∧ Nw w.heap.size w'.heap.size f ∧ Below w.heap.size w w' := by
  obtain ⟨i0, hi0, hz0, hz1, hz2⟩ := info_parts2 info_AspGate infob_AspGate
  have hn : xs.length ≤ 1048576 := by unfold zL at hz; omega
  have hx : ∀ x ∈ xs, zAspGate x ≤ 1048576 := fun x h => by have := szL_mem (z := zAspGate) h; unfold zL at hz; omega
  clear hz
  obtain ⟨A, c, rfl⟩ := RdS.slice hv
  generalize hl : xs.length = n at *
  have Hl := Lib.hid hl
  have Hv := Lib.hid hv
  have Hx := Lib.hid hx
  clear hl hv hx
  go_enter Try.func121, Try.ntmps121
  go_wp2_with (at_make; refine wpList_make_full _ rfl _ _ 36 rfl 0 153 i0 _ 6 Try.underlying36 hi0 hz0 hz1 _ _ _ _ n rfl rfl rfl rfl (make_room hz2 hn) (by unfold maxLen; omega) (Nat.zero_le _) ?_; intro w1 h1 h2)
  generalize hzs : (madeCells _ (n * 6)).toList = zs at h1
  have Z := Lib.hid (show zs.length = n * 6 from h1.1)
  have F1 := Lib.hid (Fill.start (E := EAspGate) (xs := xs) h1)
  have B1 := Lib.hid ((Below.refl w.heap.size w).grown h2 (Nat.le_refl _) (by simp))
  clear h1 h2 hzs
  go_loopw [4] (fun i w2 => ∃ j : Nat, j ≤ n ∧ i = .int .i64 j ∧ Fill 153 6 EAspGate zs xs w.heap.size n j w2 ∧ Below w.heap.size w w2) (fun i _ => n - (intOf i).toNat)
  case atStart => exact ⟨0, by omega, rfl, F1.out, B1.out⟩
  case round =>
    obtain ⟨j, hj, rfl, hfi, hb⟩ := hrel
    have Hf := Lib.hid hfi
    have Hb := Lib.hid hb
    clear hfi hb
    by_cases hlt : j < n
    · obtain ⟨ad, cs, hk, rfl, hcl, hca, hE⟩ := RdS.at_ (Hv.out.below Hb.out) hlt
      have HE := Lib.hid hE
      obtain ⟨v2, v3, v4, rfl, h2, h3, h4⟩ := hE
      have c0 := hca.c0
      have c1 := hca.ci 0 rfl
      have c2 := hca.ci 1 rfl
      have c3 := hca.ci 2 rfl
      have c4 := hca.ci 3 rfl
      have c5 := hca.ci 4 rfl
      clear hca hcl h2 h3 h4
      go_wp2_with fail
      refine (toAspGate_n _ xs[j] _ HE.out (Hx.out _ (List.getElem_mem hk))).mono ?_
      rintro e w3 ⟨cs', f', rfl, hE', hn', hb3⟩
      clear c0 c1 c2 c3 c4 c5
      obtain ⟨d0, e0⟩ := Hf.out.cell hb3 (p := j * 6) (by omega)
      have z0 := Hf.out.frozen hb3 (j * 6)
      obtain ⟨d1, e1⟩ := Hf.out.cell hb3 (p := j * 6 + 1) (by omega)
      have z1 := Hf.out.frozen hb3 (j * 6 + 1)
      obtain ⟨d2, e2⟩ := Hf.out.cell hb3 (p := j * 6 + 2) (by omega)
      have z2 := Hf.out.frozen hb3 (j * 6 + 2)
      obtain ⟨d3, e3⟩ := Hf.out.cell hb3 (p := j * 6 + 3) (by omega)
      have z3 := Hf.out.frozen hb3 (j * 6 + 3)
      obtain ⟨d4, e4⟩ := Hf.out.cell hb3 (p := j * 6 + 4) (by omega)
      have z4 := Hf.out.frozen hb3 (j * 6 + 4)
      obtain ⟨d5, e5⟩ := Hf.out.cell hb3 (p := j * 6 + 5) (by omega)
      have z5 := Hf.out.frozen hb3 (j * 6 + 5)
      obtain ⟨s1, s2, s3⟩ := Hf.out.step EAspGate.framed EAspGate.inside Z.out hlt hb3 (List.getElem?_eq_getElem hk) (cs := cs') (by obtain ⟨_, _, _, _, _, _, rfl, _⟩ := id hE'; rfl) hE' hn'.1 (fun b hb' => (hn'.2 b hb').1)
      have S1 := Lib.hid s1
      have S2 := Lib.hid ((Hb.out.trans (hb3.mono Hb.out.size)).trans (s2.below (by simp) (Nat.le_trans Hb.out.size hb3.size)))
      clear s1 s2 s3
      obtain ⟨u2, u3, u4, g2, g3, g4, rfl, o2, o3, o4, rfl⟩ := hE'
      obtain ⟨A2, c2, rfl⟩ := o2.rd.slice
      obtain ⟨A3, c3, rfl⟩ := o3.rd.slice
      obtain ⟨A4, c4, rfl⟩ := o4.rd.slice
      clear hb3 hn' o2 o3 o4
      go_wp2
      exact ⟨⟨j + 1, by omega, by go_num, S1.out, S2.out⟩, by simp [intOf]; omega⟩
    · have : j = n := by omega
      subst this
      go_wp2
      go_ret
      obtain ⟨bs, h1, h2, h3⟩ := Hf.out.done Hl.out Z.out
      exact ⟨_, bs, rfl, h1, ⟨h2, fun b hb => ⟨h3 b hb, h1.inside EAspGate.inside b hb⟩⟩, Hb.out⟩

set_option maxRecDepth 100000 in
set_option maxHeartbeats 1000000 in
theorem eqAspGateS_s (u v : Value) (xs : List DAspGate) (w : World) (hu : RdAspGateS w u xs) (hv : RdAspGateS w v xs) (hz : zL zAspGate xs ≤ 1048576) :
    Calls Try.prog 114 #[u, v] w fun e w' => e = .returned (.bool true) ∧ Below w.heap.size w w' := by
  have hn : xs.length ≤ 1048576 := by unfold zL at hz; omega
  have hx : ∀ x ∈ xs, zAspGate x ≤ 1048576 := fun x h => by have := szL_mem (z := zAspGate) h; unfold zL at hz; omega
  clear hz
  obtain ⟨A, c, rfl⟩ := RdS.slice hv
  obtain ⟨A', c', rfl⟩ := RdS.slice hu
  have hcv := RdS.cap hv
  have hcu := RdS.cap hu
  have Hv := Lib.hid hv
  have Hu := Lib.hid hu
  have Hx := Lib.hid hx
  clear hv hu hx
  generalize hl : xs.length = n at *
  have Hl := Lib.hid hl
  clear hl
  go_enter Try.func114, Try.ntmps114
  go_wp2
  go_loopw [5] (fun i w2 => ∃ j : Nat, j ≤ n ∧ i = .int .i64 j ∧ Below w.heap.size w w2) (fun i _ => n - (intOf i).toNat)
  case atStart => exact ⟨0, by omega, rfl, Below.refl _ _⟩
  case round =>
    obtain ⟨j, hj, rfl, hb⟩ := hrel
    have Hb := Lib.hid hb
    clear hb
    by_cases hlt : j < n
    · obtain ⟨ad, cs, hk, rfl, hcl, hca, hE⟩ := RdS.at_ (Hv.out.below Hb.out) hlt
      obtain ⟨ad', cs', hk', rfl, hcl', hca', hE'⟩ := RdS.at_ (Hu.out.below Hb.out) hlt
      have HE := Lib.hid hE
      have HE' := Lib.hid hE'
      obtain ⟨v2, v3, v4, rfl, h2, h3, h4⟩ := hE
      obtain ⟨u2, u3, u4, rfl, k2, k3, k4⟩ := hE'
      have c0 := hca.c0
      have d0 := hca'.c0
      have c1 := hca.ci 0 rfl
      have d1 := hca'.ci 0 rfl
      have c2 := hca.ci 1 rfl
      have d2 := hca'.ci 1 rfl
      have c3 := hca.ci 2 rfl
      have d3 := hca'.ci 2 rfl
      have c4 := hca.ci 3 rfl
      have d4 := hca'.ci 3 rfl
      have c5 := hca.ci 4 rfl
      have d5 := hca'.ci 4 rfl
      clear hca hcl hca' hcl' h2 k2 h3 k3 h4 k4
      go_wp2
      go_still_tail 8, (by kernel_rfl)
      go_wp2_with fail
      refine (eqAspGate_s _ _ xs[j] _ (by exact HE'.out) (by exact HE.out) (Hx.out _ (List.getElem_mem hk))).mono ?_
      rintro e w3 ⟨rfl, hb3⟩
      have Hb3 := Lib.hid (Hb.out.trans ((below_of_drew hb3).mono Hb.out.size))
      clear hb3 c0 d0 c1 d1 c2 d2 c3 d3 c4 d4 c5 d5
      go_wp2
      exact ⟨⟨j + 1, by omega, by go_num, Hb3.out⟩, by simp [intOf]; omega⟩
    · go_wp2
      go_ret
      exact ⟨rfl, Hb.out⟩

theorem cells_AspGate : Try.prog.cellsOf 255 = 6 := by kernel_rfl
set_option maxRecDepth 100000 in
theorem read_AspGate {H : Type} {enc : TypeId × Value → H} {w : World} {base : Nat} {spare : Nat → Bool} {held : Bool} (n : Nat) (cs : List Value) (y : DataW H × List MemPlace) (hcs : cs.length = 6)
    (h : DataW.trod enc Try.prog w base spare held n 255 cs = some y) : ∃ x : DAspGate, FAspGate w cs x := by
  obtain ⟨ys, n', _, _, _, hxl, hg⟩ := DataW.trod_struct Try.underlying255 h
  match cs, hcs with
  | [c0, c1, c2, c3, c4, c5], _ =>
    match ys, hxl with
    | [y0, y1, y2, y3, y4, y5], _ =>
      have h0 : DataW.trod enc Try.prog w base spare held n' 3 (([c0, c1, c2, c3, c4, c5].drop 0).take (Try.prog.cellsOf 3)) = some y0 := hg 0 _ rfl
      have h1 : DataW.trod enc Try.prog w base spare held n' 4 (([c0, c1, c2, c3, c4, c5].drop 1).take (Try.prog.cellsOf 4)) = some y1 := hg 1 _ rfl
      have h2 : DataW.trod enc Try.prog w base spare held n' 35 (([c0, c1, c2, c3, c4, c5].drop 2).take (Try.prog.cellsOf 35)) = some y2 := hg 2 _ rfl
      have h3 : DataW.trod enc Try.prog w base spare held n' 35 (([c0, c1, c2, c3, c4, c5].drop 3).take (Try.prog.cellsOf 35)) = some y3 := hg 3 _ rfl
      have h4 : DataW.trod enc Try.prog w base spare held n' 35 (([c0, c1, c2, c3, c4, c5].drop 4).take (Try.prog.cellsOf 35)) = some y4 := hg 4 _ rfl
      have h5 : DataW.trod enc Try.prog w base spare held n' 3 (([c0, c1, c2, c3, c4, c5].drop 5).take (Try.prog.cellsOf 3)) = some y5 := hg 5 _ rfl
      simp only [cellsInt, cellsBool, cellsInts, List.drop_zero, List.drop_succ_cons, List.take_succ_cons, List.take_zero] at h0 h1 h2 h3 h4 h5
      obtain ⟨a0, rfl⟩ := intCell h0
      obtain ⟨a1, rfl⟩ := boolCell h1
      obtain ⟨a2, g2⟩ := open_rdi h2
      obtain ⟨a3, g3⟩ := open_rdi h3
      obtain ⟨a4, g4⟩ := open_rdi h4
      obtain ⟨a5, rfl⟩ := intCell h5
      exact ⟨⟨a0, a1, a2, a3, a4, a5⟩, _, _, _, rfl, g2, g3, g4⟩
theorem cells_AspGateS : Try.prog.cellsOf 46 = 1 := by kernel_rfl
end Go.Proofs.Ythdjjgbjemaabaa
