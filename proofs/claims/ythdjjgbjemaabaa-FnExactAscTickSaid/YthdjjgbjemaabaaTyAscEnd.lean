/-
  Words and the laws' helpers of AscEnd and of lists of it. (Written by wip/tools/gentype.py.)
-/
import Derived.Test.YthdjjgbjemaabaaKin
namespace Go.Proofs.Ythdjjgbjemaabaa
open Go.ChangeShapes Go.WideShapes Go.ChangeAt Go.RowKit
set_option linter.unusedVariables false
set_option linter.unusedSimpArgs false

structure DAscEnd where
  xMe : Int
  xPeer : Int
  xSecret : Int
  xWish : Int
  xLast : Int
  xState : Int
  xTag : Int
  xPeerTag : Int
  xTsn : Int
  xPeerTsn : Int
  xStreams : Int
  xCookie : List UInt8
  xTries : Int
  xLeft : Int
def FAscEnd (w : World) (cs : List Value) (x : DAscEnd) : Prop := ∃ v11 : Value, cs = [.int .i64 x.xMe, .int .i64 x.xPeer, .int .i64 x.xSecret, .int .i64 x.xWish, .int .i64 x.xLast, .int .i64 x.xState, .int .i64 x.xTag, .int .i64 x.xPeerTag, .int .i64 x.xTsn, .int .i64 x.xPeerTsn, .int .i64 x.xStreams, v11, .int .i64 x.xTries, .int .i64 x.xLeft] ∧ RdB w v11 x.xCookie
def EAscEnd (w : World) (f : List Nat) (cs : List Value) (x : DAscEnd) : Prop := ∃ (v11 : Value) (f11 : List Nat), cs = [.int .i64 x.xMe, .int .i64 x.xPeer, .int .i64 x.xSecret, .int .i64 x.xWish, .int .i64 x.xLast, .int .i64 x.xState, .int .i64 x.xTag, .int .i64 x.xPeerTag, .int .i64 x.xTsn, .int .i64 x.xPeerTsn, .int .i64 x.xStreams, v11, .int .i64 x.xTries, .int .i64 x.xLeft] ∧ OwBy w f11 v11 x.xCookie ∧ f = f11
theorem FAscEnd.below {w w' : World} {cs : List Value} {x : DAscEnd} (h : FAscEnd w cs x) (hb : Below w.heap.size w w') : FAscEnd w' cs x := by
  obtain ⟨v11, rfl, h11⟩ := h
  exact ⟨v11, rfl, h11.below hb⟩
theorem EAscEnd.framed : Framed EAscEnd := by
  rintro w w' f cs x ⟨v11, f11, rfl, h11, rfl⟩ hb
  exact ⟨_, _, rfl, h11.keep (fun b h => hb b (by simp [h])), rfl⟩
theorem EAscEnd.inside : Inside EAscEnd := by
  rintro w f cs x ⟨v11, f11, rfl, h11, rfl⟩ b hb
  exact h11.inside b hb
theorem EAscEnd.rd {w : World} {f : List Nat} {cs : List Value} {x : DAscEnd} (h : EAscEnd w f cs x) : FAscEnd w cs x := by
  obtain ⟨v11, f11, rfl, h11, rfl⟩ := h
  exact ⟨v11, rfl, h11.rd⟩
abbrev RdAscEndS (w : World) (v : Value) (xs : List DAscEnd) : Prop := RdS 14 FAscEnd w v xs
def OwAscEndS (w : World) (f : List Nat) (v : Value) (xs : List DAscEnd) : Prop := OwL 67 14 EAscEnd w f v xs
theorem RdAscEndS.below {w w' : World} {v : Value} {xs : List DAscEnd} (h : RdAscEndS w v xs) (hb : Below w.heap.size w w') : RdAscEndS w' v xs := RdS.below (fun _ _ h => h.below hb) h hb
theorem RdAscEndS.slice {w : World} {v : Value} {xs : List DAscEnd} (h : RdAscEndS w v xs) : ∃ A c, v = .slice A xs.length c := RdS.slice h
theorem OwAscEndS.keep {w w' : World} {f : List Nat} {v : Value} {xs : List DAscEnd} (h : OwAscEndS w f v xs) (hb : ∀ b ∈ f, w'.heap[b]? = w.heap[b]?) : OwAscEndS w' f v xs := OwL.keep EAscEnd.framed h hb
theorem OwAscEndS.inside {w : World} {f : List Nat} {v : Value} {xs : List DAscEnd} (h : OwAscEndS w f v xs) : ∀ b ∈ f, b < w.heap.size := OwL.inside EAscEnd.inside h
theorem OwAscEndS.rd {w : World} {f : List Nat} {v : Value} {xs : List DAscEnd} (h : OwAscEndS w f v xs) : RdAscEndS w v xs := OwL.rd (fun _ _ _ h => h.rd) h
def zAscEnd (x : DAscEnd) : Nat := x.xCookie.length

set_option maxHeartbeats 1000000 in
theorem szAscEnd_z (cs : List Value) (x : DAscEnd) (left : Int) (w : World) (h : FAscEnd w cs x) (hl : 0 ≤ left ∧ left ≤ 1048576) :
    Calls Try.prog 47 #[.agg cs.toArray, .int .i64 left] w fun e w' => e = .returned (.int .i64 (szR left (zAscEnd x))) ∧ Below w.heap.size w w' := by
  obtain ⟨v11, rfl, h11⟩ := h
  have Hz := Lib.hid (show zAscEnd x = x.xCookie.length from rfl)
  generalize zAscEnd x = zx at Hz ⊢
  have K := Lib.hid (Blk.new (w := w) (b := w.heap.size) #[.int .i64 x.xMe, .int .i64 x.xPeer, .int .i64 x.xSecret, .int .i64 x.xWish, .int .i64 x.xLast, .int .i64 x.xState, .int .i64 x.xTag, .int .i64 x.xPeerTag, .int .i64 x.xTsn, .int .i64 x.xPeerTsn, .int .i64 x.xStreams, v11, .int .i64 x.xTries, .int .i64 x.xLeft] 65 rfl)
  have HB := Lib.hid ((Below.refl w.heap.size w).alloc (Nat.le_refl _) (.cells #[.int .i64 x.xMe, .int .i64 x.xPeer, .int .i64 x.xSecret, .int .i64 x.xWish, .int .i64 x.xLast, .int .i64 x.xState, .int .i64 x.xTag, .int .i64 x.xPeerTag, .int .i64 x.xTsn, .int .i64 x.xPeerTsn, .int .i64 x.xStreams, v11, .int .i64 x.xTries, .int .i64 x.xLeft] 65))
  have H11 := Lib.hid h11
  clear h11
  go_enter Try.func47, Try.ntmps47
  go_wp2_with fail
  refine (szByteS_z _ x.xCookie _ _ (H11.out.below HB.out) ⟨by omega, by omega⟩).mono ?_
  rintro e w1 ⟨rfl, b1⟩
  have K := Lib.hid (K.out.keep b1)
  have HB := Lib.hid (HB.out.trans (b1.mono HB.out.size))
  clear b1
  have hr0 := szR_cases left (x.xCookie.length) (by omega)
  generalize szR left (x.xCookie.length) = r0 at *
  rcases hr0 with ⟨rfl, hr0⟩ | ⟨hr0, hs0, ht0⟩
  · have Q := Lib.hid hr0
    go_wp2
    go_ret
    refine ⟨retI ?_, HB.out⟩
    have hz := Hz.out
    have hq := Q.out
    rw [szR_no (by omega)]
  have hz := Hz.out
  have Hf := Lib.hid (show szR left zx = r0 by rw [szR_yes (by omega)]; omega)
  clear hz
  go_wp2
  go_ret
  exact ⟨retI Hf.out.symm, HB.out⟩

set_option maxRecDepth 100000 in
set_option maxHeartbeats 2000000 in
theorem toAscEnd_n (cs : List Value) (x : DAscEnd) (w : World) (h : FAscEnd w cs x) (hz : zAscEnd x ≤ 1048576) :
    Calls Try.prog 49 #[.agg cs.toArray] w fun e w' => ∃ cs' f, e = .returned (.agg cs'.toArray) ∧ EAscEnd w' f cs' x ∧ Nw w.heap.size w'.heap.size f ∧ Below w.heap.size w w' := by
  obtain ⟨v11, rfl, h11⟩ := h
  simp only [zAscEnd] at hz
  have H11 := Lib.hid h11
  clear h11
  have Hz := Lib.hid hz
  clear hz
  have KA := Lib.hid (((Blk.new (w := w) (b := w.heap.size) #[.int .i64 x.xMe, .int .i64 x.xPeer, .int .i64 x.xSecret, .int .i64 x.xWish, .int .i64 x.xLast, .int .i64 x.xState, .int .i64 x.xTag, .int .i64 x.xPeerTag, .int .i64 x.xTsn, .int .i64 x.xPeerTsn, .int .i64 x.xStreams, v11, .int .i64 x.xTries, .int .i64 x.xLeft] 65 rfl).alloc (.cells #[.int .i64 0, .int .i64 0, .int .i64 0, .int .i64 0, .int .i64 0, .int .i64 0, .int .i64 0, .int .i64 0, .int .i64 0, .int .i64 0, .int .i64 0, .slice none 0 0, .int .i64 0, .int .i64 0] 67)).alloc (.cells #[.int .i64 x.xMe, .int .i64 x.xPeer, .int .i64 x.xSecret, .int .i64 x.xWish, .int .i64 x.xLast, .int .i64 x.xState, .int .i64 x.xTag, .int .i64 x.xPeerTag, .int .i64 x.xTsn, .int .i64 x.xPeerTsn, .int .i64 x.xStreams, .slice none 0 0, .int .i64 0, .int .i64 0] 67))
  have KR := Lib.hid ((Blk.new (w := w.alloc (.cells #[.int .i64 x.xMe, .int .i64 x.xPeer, .int .i64 x.xSecret, .int .i64 x.xWish, .int .i64 x.xLast, .int .i64 x.xState, .int .i64 x.xTag, .int .i64 x.xPeerTag, .int .i64 x.xTsn, .int .i64 x.xPeerTsn, .int .i64 x.xStreams, v11, .int .i64 x.xTries, .int .i64 x.xLeft] 65)) (b := w.heap.size + 1) #[.int .i64 0, .int .i64 0, .int .i64 0, .int .i64 0, .int .i64 0, .int .i64 0, .int .i64 0, .int .i64 0, .int .i64 0, .int .i64 0, .int .i64 0, .slice none 0 0, .int .i64 0, .int .i64 0] 67 (by simp)).alloc (.cells #[.int .i64 x.xMe, .int .i64 x.xPeer, .int .i64 x.xSecret, .int .i64 x.xWish, .int .i64 x.xLast, .int .i64 x.xState, .int .i64 x.xTag, .int .i64 x.xPeerTag, .int .i64 x.xTsn, .int .i64 x.xPeerTsn, .int .i64 x.xStreams, .slice none 0 0, .int .i64 0, .int .i64 0] 67))
  have KO := Lib.hid (Blk.new (w := (w.alloc (.cells #[.int .i64 x.xMe, .int .i64 x.xPeer, .int .i64 x.xSecret, .int .i64 x.xWish, .int .i64 x.xLast, .int .i64 x.xState, .int .i64 x.xTag, .int .i64 x.xPeerTag, .int .i64 x.xTsn, .int .i64 x.xPeerTsn, .int .i64 x.xStreams, v11, .int .i64 x.xTries, .int .i64 x.xLeft] 65)).alloc (.cells #[.int .i64 0, .int .i64 0, .int .i64 0, .int .i64 0, .int .i64 0, .int .i64 0, .int .i64 0, .int .i64 0, .int .i64 0, .int .i64 0, .int .i64 0, .slice none 0 0, .int .i64 0, .int .i64 0] 67)) (b := w.heap.size + 1 + 1) #[.int .i64 x.xMe, .int .i64 x.xPeer, .int .i64 x.xSecret, .int .i64 x.xWish, .int .i64 x.xLast, .int .i64 x.xState, .int .i64 x.xTag, .int .i64 x.xPeerTag, .int .i64 x.xTsn, .int .i64 x.xPeerTsn, .int .i64 x.xStreams, .slice none 0 0, .int .i64 0, .int .i64 0] 67 (by simp))
  have HB := Lib.hid (below3 w (.cells #[.int .i64 x.xMe, .int .i64 x.xPeer, .int .i64 x.xSecret, .int .i64 x.xWish, .int .i64 x.xLast, .int .i64 x.xState, .int .i64 x.xTag, .int .i64 x.xPeerTag, .int .i64 x.xTsn, .int .i64 x.xPeerTsn, .int .i64 x.xStreams, v11, .int .i64 x.xTries, .int .i64 x.xLeft] 65) (.cells #[.int .i64 0, .int .i64 0, .int .i64 0, .int .i64 0, .int .i64 0, .int .i64 0, .int .i64 0, .int .i64 0, .int .i64 0, .int .i64 0, .int .i64 0, .slice none 0 0, .int .i64 0, .int .i64 0] 67) (.cells #[.int .i64 x.xMe, .int .i64 x.xPeer, .int .i64 x.xSecret, .int .i64 x.xWish, .int .i64 x.xLast, .int .i64 x.xState, .int .i64 x.xTag, .int .i64 x.xPeerTag, .int .i64 x.xTsn, .int .i64 x.xPeerTsn, .int .i64 x.xStreams, .slice none 0 0, .int .i64 0, .int .i64 0] 67))
  have HS : w.heap.size + 3 ≤ (((w.alloc (.cells #[.int .i64 x.xMe, .int .i64 x.xPeer, .int .i64 x.xSecret, .int .i64 x.xWish, .int .i64 x.xLast, .int .i64 x.xState, .int .i64 x.xTag, .int .i64 x.xPeerTag, .int .i64 x.xTsn, .int .i64 x.xPeerTsn, .int .i64 x.xStreams, v11, .int .i64 x.xTries, .int .i64 x.xLeft] 65)).alloc (.cells #[.int .i64 0, .int .i64 0, .int .i64 0, .int .i64 0, .int .i64 0, .int .i64 0, .int .i64 0, .int .i64 0, .int .i64 0, .int .i64 0, .int .i64 0, .slice none 0 0, .int .i64 0, .int .i64 0] 67)).alloc (.cells #[.int .i64 x.xMe, .int .i64 x.xPeer, .int .i64 x.xSecret, .int .i64 x.xWish, .int .i64 x.xLast, .int .i64 x.xState, .int .i64 x.xTag, .int .i64 x.xPeerTag, .int .i64 x.xTsn, .int .i64 x.xPeerTsn, .int .i64 x.xStreams, .slice none 0 0, .int .i64 0, .int .i64 0] 67)).heap.size := by simp
  go_enter Try.func49, Try.ntmps49
  go_wp2_with fail
  refine (toByteS_n _ x.xCookie _ (H11.out.below (by exact HB.out)) (by have := Hz.out; omega)).mono ?_
  rintro e w1 ⟨u11, g11, rfl, o11, n11, b1⟩
  obtain ⟨A11, c11, rfl⟩ := o11.rd.slice
  have KA := Lib.hid (KA.out.keep b1)
  have KR := Lib.hid (KR.out.keep b1)
  have KO := Lib.hid (KO.out.keep b1)
  have HS : w.heap.size + 3 ≤ w1.heap.size := Nat.le_trans HS b1.size
  have S1 := Lib.hid HS
  have FR0 := Lib.hid (FrL.refl [w.heap.size + 1, w.heap.size + 1 + 1] w1)
  have HB := Lib.hid (HB.out.trans (b1.mono HB.out.size))
  have O11 := Lib.hid o11
  have N0 := Lib.hid (n11.mono (lo' := w.heap.size + 3) (by simp) (Nat.le_refl _))
  clear o11 n11 b1
  have ac0 := KA.out.at (i := 0) rfl
  have oc0 := KO.out.at (i := 0) rfl
  have rc0 := KR.out.at (i := 0) rfl
  have rf0 := KR.out.frozen 0
  have ac1 := KA.out.at (i := 1) rfl
  have oc1 := KO.out.at (i := 1) rfl
  have rc1 := KR.out.at (i := 1) rfl
  have rf1 := KR.out.frozen 1
  have ac2 := KA.out.at (i := 2) rfl
  have oc2 := KO.out.at (i := 2) rfl
  have rc2 := KR.out.at (i := 2) rfl
  have rf2 := KR.out.frozen 2
  have ac3 := KA.out.at (i := 3) rfl
  have oc3 := KO.out.at (i := 3) rfl
  have rc3 := KR.out.at (i := 3) rfl
  have rf3 := KR.out.frozen 3
  have ac4 := KA.out.at (i := 4) rfl
  have oc4 := KO.out.at (i := 4) rfl
  have rc4 := KR.out.at (i := 4) rfl
  have rf4 := KR.out.frozen 4
  have ac5 := KA.out.at (i := 5) rfl
  have oc5 := KO.out.at (i := 5) rfl
  have rc5 := KR.out.at (i := 5) rfl
  have rf5 := KR.out.frozen 5
  have ac6 := KA.out.at (i := 6) rfl
  have oc6 := KO.out.at (i := 6) rfl
  have rc6 := KR.out.at (i := 6) rfl
  have rf6 := KR.out.frozen 6
  have ac7 := KA.out.at (i := 7) rfl
  have oc7 := KO.out.at (i := 7) rfl
  have rc7 := KR.out.at (i := 7) rfl
  have rf7 := KR.out.frozen 7
  have ac8 := KA.out.at (i := 8) rfl
  have oc8 := KO.out.at (i := 8) rfl
  have rc8 := KR.out.at (i := 8) rfl
  have rf8 := KR.out.frozen 8
  have ac9 := KA.out.at (i := 9) rfl
  have oc9 := KO.out.at (i := 9) rfl
  have rc9 := KR.out.at (i := 9) rfl
  have rf9 := KR.out.frozen 9
  have ac10 := KA.out.at (i := 10) rfl
  have oc10 := KO.out.at (i := 10) rfl
  have rc10 := KR.out.at (i := 10) rfl
  have rf10 := KR.out.frozen 10
  have ac11 := KA.out.at (i := 11) rfl
  have oc11 := KO.out.at (i := 11) rfl
  have of11 := KO.out.frozen 11
  have rc11 := KR.out.at (i := 11) rfl
  have rf11 := KR.out.frozen 11
  have ac12 := KA.out.at (i := 12) rfl
  have oc12 := KO.out.at (i := 12) rfl
  have of12 := KO.out.frozen 12
  have rc12 := KR.out.at (i := 12) rfl
  have rf12 := KR.out.frozen 12
  have ac13 := KA.out.at (i := 13) rfl
  have oc13 := KO.out.at (i := 13) rfl
  have of13 := KO.out.frozen 13
  have rc13 := KR.out.at (i := 13) rfl
  have rf13 := KR.out.frozen 13
  have KA := Lib.hid (KA.out.far (b' := w.heap.size + 1 + 1) (o := 11) (v := .slice A11 x.xCookie.length c11) (by omega))
  have KR := Lib.hid (KR.out.far (b' := w.heap.size + 1 + 1) (o := 11) (v := .slice A11 x.xCookie.length c11) (by omega))
  have KO := Lib.hid (KO.out.set (i := 11) (v := .slice A11 x.xCookie.length c11) (by simp))
  have FR0 := Lib.hid (FR0.out.set (g := w.heap.size + 1 + 1) (o := 11) (.slice A11 x.xCookie.length c11) (by simp))
  have HB := Lib.hid (HB.out.setCell (p := ⟨w.heap.size + 1 + 1, 11, none⟩) (by simp <;> omega) (.slice A11 x.xCookie.length c11))
  have KA := Lib.hid (KA.out.far (b' := w.heap.size + 1 + 1) (o := 12) (v := .int .i64 x.xTries) (by omega))
  have KR := Lib.hid (KR.out.far (b' := w.heap.size + 1 + 1) (o := 12) (v := .int .i64 x.xTries) (by omega))
  have KO := Lib.hid (KO.out.set (i := 12) (v := .int .i64 x.xTries) (by simp))
  have FR0 := Lib.hid (FR0.out.set (g := w.heap.size + 1 + 1) (o := 12) (.int .i64 x.xTries) (by simp))
  have HB := Lib.hid (HB.out.setCell (p := ⟨w.heap.size + 1 + 1, 12, none⟩) (by simp <;> omega) (.int .i64 x.xTries))
  have KA := Lib.hid (KA.out.far (b' := w.heap.size + 1 + 1) (o := 13) (v := .int .i64 x.xLeft) (by omega))
  have KR := Lib.hid (KR.out.far (b' := w.heap.size + 1 + 1) (o := 13) (v := .int .i64 x.xLeft) (by omega))
  have KO := Lib.hid (KO.out.set (i := 13) (v := .int .i64 x.xLeft) (by simp))
  have FR0 := Lib.hid (FR0.out.set (g := w.heap.size + 1 + 1) (o := 13) (.int .i64 x.xLeft) (by simp))
  have HB := Lib.hid (HB.out.setCell (p := ⟨w.heap.size + 1 + 1, 13, none⟩) (by simp <;> omega) (.int .i64 x.xLeft))
  have FR0 := Lib.hid (FR0.out.set (g := w.heap.size + 1) (o := 0) (.int .i64 x.xMe) (by simp))
  have HB := Lib.hid (HB.out.setCell (p := ⟨w.heap.size + 1, 0, none⟩) (by simp <;> omega) (.int .i64 x.xMe))
  have FR0 := Lib.hid (FR0.out.set (g := w.heap.size + 1) (o := 1) (.int .i64 x.xPeer) (by simp))
  have HB := Lib.hid (HB.out.setCell (p := ⟨w.heap.size + 1, 1, none⟩) (by simp <;> omega) (.int .i64 x.xPeer))
  have FR0 := Lib.hid (FR0.out.set (g := w.heap.size + 1) (o := 2) (.int .i64 x.xSecret) (by simp))
  have HB := Lib.hid (HB.out.setCell (p := ⟨w.heap.size + 1, 2, none⟩) (by simp <;> omega) (.int .i64 x.xSecret))
  have FR0 := Lib.hid (FR0.out.set (g := w.heap.size + 1) (o := 3) (.int .i64 x.xWish) (by simp))
  have HB := Lib.hid (HB.out.setCell (p := ⟨w.heap.size + 1, 3, none⟩) (by simp <;> omega) (.int .i64 x.xWish))
  have FR0 := Lib.hid (FR0.out.set (g := w.heap.size + 1) (o := 4) (.int .i64 x.xLast) (by simp))
  have HB := Lib.hid (HB.out.setCell (p := ⟨w.heap.size + 1, 4, none⟩) (by simp <;> omega) (.int .i64 x.xLast))
  have FR0 := Lib.hid (FR0.out.set (g := w.heap.size + 1) (o := 5) (.int .i64 x.xState) (by simp))
  have HB := Lib.hid (HB.out.setCell (p := ⟨w.heap.size + 1, 5, none⟩) (by simp <;> omega) (.int .i64 x.xState))
  have FR0 := Lib.hid (FR0.out.set (g := w.heap.size + 1) (o := 6) (.int .i64 x.xTag) (by simp))
  have HB := Lib.hid (HB.out.setCell (p := ⟨w.heap.size + 1, 6, none⟩) (by simp <;> omega) (.int .i64 x.xTag))
  have FR0 := Lib.hid (FR0.out.set (g := w.heap.size + 1) (o := 7) (.int .i64 x.xPeerTag) (by simp))
  have HB := Lib.hid (HB.out.setCell (p := ⟨w.heap.size + 1, 7, none⟩) (by simp <;> omega) (.int .i64 x.xPeerTag))
  have FR0 := Lib.hid (FR0.out.set (g := w.heap.size + 1) (o := 8) (.int .i64 x.xTsn) (by simp))
  have HB := Lib.hid (HB.out.setCell (p := ⟨w.heap.size + 1, 8, none⟩) (by simp <;> omega) (.int .i64 x.xTsn))
  have FR0 := Lib.hid (FR0.out.set (g := w.heap.size + 1) (o := 9) (.int .i64 x.xPeerTsn) (by simp))
  have HB := Lib.hid (HB.out.setCell (p := ⟨w.heap.size + 1, 9, none⟩) (by simp <;> omega) (.int .i64 x.xPeerTsn))
  have FR0 := Lib.hid (FR0.out.set (g := w.heap.size + 1) (o := 10) (.int .i64 x.xStreams) (by simp))
  have HB := Lib.hid (HB.out.setCell (p := ⟨w.heap.size + 1, 10, none⟩) (by simp <;> omega) (.int .i64 x.xStreams))
  have FR0 := Lib.hid (FR0.out.set (g := w.heap.size + 1) (o := 11) (.slice A11 x.xCookie.length c11) (by simp))
  have HB := Lib.hid (HB.out.setCell (p := ⟨w.heap.size + 1, 11, none⟩) (by simp <;> omega) (.slice A11 x.xCookie.length c11))
  have FR0 := Lib.hid (FR0.out.set (g := w.heap.size + 1) (o := 12) (.int .i64 x.xTries) (by simp))
  have HB := Lib.hid (HB.out.setCell (p := ⟨w.heap.size + 1, 12, none⟩) (by simp <;> omega) (.int .i64 x.xTries))
  have FR0 := Lib.hid (FR0.out.set (g := w.heap.size + 1) (o := 13) (.int .i64 x.xLeft) (by simp))
  have HB := Lib.hid (HB.out.setCell (p := ⟨w.heap.size + 1, 13, none⟩) (by simp <;> omega) (.int .i64 x.xLeft))
  clear KR
  go_wp2
  refine bodyPost_ret (v := .agg #[.int .i64 x.xMe, .int .i64 x.xPeer, .int .i64 x.xSecret, .int .i64 x.xWish, .int .i64 x.xLast, .int .i64 x.xState, .int .i64 x.xTag, .int .i64 x.xPeerTag, .int .i64 x.xTsn, .int .i64 x.xPeerTsn, .int .i64 x.xStreams, .slice A11 x.xCookie.length c11, .int .i64 x.xTries, .int .i64 x.xLeft]) (by simp [results, Try.results49, go_sem, rc0, rc1, rc2, rc3, rc4, rc5, rc6, rc7, rc8, rc9, rc10, rc11, rc12, rc13]) rfl ⟨[.int .i64 x.xMe, .int .i64 x.xPeer, .int .i64 x.xSecret, .int .i64 x.xWish, .int .i64 x.xLast, .int .i64 x.xState, .int .i64 x.xTag, .int .i64 x.xPeerTag, .int .i64 x.xTsn, .int .i64 x.xPeerTsn, .int .i64 x.xStreams, .slice A11 x.xCookie.length c11, .int .i64 x.xTries, .int .i64 x.xLeft], _, rfl, ⟨_, _, rfl, O11.out.keep ?_, rfl⟩, ?_, ?_⟩
  · exact (fun b hb => FR0.out.block b (O11.out.inside b hb) (by have h1 := (N0.out.2 b hb).1; simp only [List.mem_cons, List.not_mem_nil, or_false, not_or]; omega))
  · have h := N0.out
    exact h.mono (by omega) (by simp only [size_set]; omega)
  · exact HB.out

set_option maxHeartbeats 2000000 in
theorem eqAscEnd_s (cs ds : List Value) (x : DAscEnd) (w : World) (h : FAscEnd w cs x) (k : FAscEnd w ds x) (hz : zAscEnd x ≤ 1048576) :
    Calls Try.prog 51 #[.agg cs.toArray, .agg ds.toArray] w fun e w' => e = .returned (.bool true) ∧ Below w.heap.size w w' := by
  obtain ⟨v11, rfl, h11⟩ := h
  obtain ⟨u11, rfl, k11⟩ := k
  simp only [zAscEnd] at hz
  have Hz := Lib.hid hz
  clear hz
  have KA := Lib.hid ((Blk.new (w := w) (b := w.heap.size) #[.int .i64 x.xMe, .int .i64 x.xPeer, .int .i64 x.xSecret, .int .i64 x.xWish, .int .i64 x.xLast, .int .i64 x.xState, .int .i64 x.xTag, .int .i64 x.xPeerTag, .int .i64 x.xTsn, .int .i64 x.xPeerTsn, .int .i64 x.xStreams, v11, .int .i64 x.xTries, .int .i64 x.xLeft] 67 rfl).alloc (.cells #[.int .i64 x.xMe, .int .i64 x.xPeer, .int .i64 x.xSecret, .int .i64 x.xWish, .int .i64 x.xLast, .int .i64 x.xState, .int .i64 x.xTag, .int .i64 x.xPeerTag, .int .i64 x.xTsn, .int .i64 x.xPeerTsn, .int .i64 x.xStreams, u11, .int .i64 x.xTries, .int .i64 x.xLeft] 67))
  have KB := Lib.hid (Blk.new (w := w.alloc (.cells #[.int .i64 x.xMe, .int .i64 x.xPeer, .int .i64 x.xSecret, .int .i64 x.xWish, .int .i64 x.xLast, .int .i64 x.xState, .int .i64 x.xTag, .int .i64 x.xPeerTag, .int .i64 x.xTsn, .int .i64 x.xPeerTsn, .int .i64 x.xStreams, v11, .int .i64 x.xTries, .int .i64 x.xLeft] 67)) (b := w.heap.size + 1) #[.int .i64 x.xMe, .int .i64 x.xPeer, .int .i64 x.xSecret, .int .i64 x.xWish, .int .i64 x.xLast, .int .i64 x.xState, .int .i64 x.xTag, .int .i64 x.xPeerTag, .int .i64 x.xTsn, .int .i64 x.xPeerTsn, .int .i64 x.xStreams, u11, .int .i64 x.xTries, .int .i64 x.xLeft] 67 (by simp))
  have HB := Lib.hid (below2 w (.cells #[.int .i64 x.xMe, .int .i64 x.xPeer, .int .i64 x.xSecret, .int .i64 x.xWish, .int .i64 x.xLast, .int .i64 x.xState, .int .i64 x.xTag, .int .i64 x.xPeerTag, .int .i64 x.xTsn, .int .i64 x.xPeerTsn, .int .i64 x.xStreams, v11, .int .i64 x.xTries, .int .i64 x.xLeft] 67) (.cells #[.int .i64 x.xMe, .int .i64 x.xPeer, .int .i64 x.xSecret, .int .i64 x.xWish, .int .i64 x.xLast, .int .i64 x.xState, .int .i64 x.xTag, .int .i64 x.xPeerTag, .int .i64 x.xTsn, .int .i64 x.xPeerTsn, .int .i64 x.xStreams, u11, .int .i64 x.xTries, .int .i64 x.xLeft] 67))
  have H11 := Lib.hid h11
  have K11 := Lib.hid k11
  clear h11 k11
  go_enter Try.func51, Try.ntmps51
  go_wp2_with fail
  refine (eqByteS_s _ _ x.xCookie _ (H11.out.below (by exact HB.out)) (K11.out.below (by exact HB.out)) (by have := Hz.out; omega)).mono ?_
  rintro e w1 ⟨rfl, b1⟩
  have KA := Lib.hid (KA.out.keep b1)
  have KB := Lib.hid (KB.out.keep b1)
  have HB := Lib.hid (HB.out.trans (b1.mono HB.out.size))
  clear b1
  have ac12 := KA.out.at (i := 12) rfl
  have bc12 := KB.out.at (i := 12) rfl
  have ac13 := KA.out.at (i := 13) rfl
  have bc13 := KB.out.at (i := 13) rfl
  go_wp2
  go_ret
  exact ⟨rfl, HB.out⟩

theorem cells_AscEnd : Try.prog.cellsOf 65 = 14 := by kernel_rfl
set_option maxRecDepth 100000 in
theorem read_AscEnd {H : Type} {enc : TypeId × Value → H} {w : World} {base : Nat} {spare : Nat → Bool} {held : Bool} (n : Nat) (cs : List Value) (y : DataW H × List MemPlace) (hcs : cs.length = 14)
    (h : DataW.trod enc Try.prog w base spare held n 65 cs = some y) : ∃ x : DAscEnd, FAscEnd w cs x := by
  obtain ⟨ys, n', _, _, _, hxl, hg⟩ := DataW.trod_struct Try.underlying65 h
  match cs, hcs with
  | [c0, c1, c2, c3, c4, c5, c6, c7, c8, c9, c10, c11, c12, c13], _ =>
    match ys, hxl with
    | [y0, y1, y2, y3, y4, y5, y6, y7, y8, y9, y10, y11, y12, y13], _ =>
      have h0 : DataW.trod enc Try.prog w base spare held n' 3 (([c0, c1, c2, c3, c4, c5, c6, c7, c8, c9, c10, c11, c12, c13].drop 0).take (Try.prog.cellsOf 3)) = some y0 := hg 0 _ rfl
      have h1 : DataW.trod enc Try.prog w base spare held n' 3 (([c0, c1, c2, c3, c4, c5, c6, c7, c8, c9, c10, c11, c12, c13].drop 1).take (Try.prog.cellsOf 3)) = some y1 := hg 1 _ rfl
      have h2 : DataW.trod enc Try.prog w base spare held n' 3 (([c0, c1, c2, c3, c4, c5, c6, c7, c8, c9, c10, c11, c12, c13].drop 2).take (Try.prog.cellsOf 3)) = some y2 := hg 2 _ rfl
      have h3 : DataW.trod enc Try.prog w base spare held n' 3 (([c0, c1, c2, c3, c4, c5, c6, c7, c8, c9, c10, c11, c12, c13].drop 3).take (Try.prog.cellsOf 3)) = some y3 := hg 3 _ rfl
      have h4 : DataW.trod enc Try.prog w base spare held n' 3 (([c0, c1, c2, c3, c4, c5, c6, c7, c8, c9, c10, c11, c12, c13].drop 4).take (Try.prog.cellsOf 3)) = some y4 := hg 4 _ rfl
      have h5 : DataW.trod enc Try.prog w base spare held n' 3 (([c0, c1, c2, c3, c4, c5, c6, c7, c8, c9, c10, c11, c12, c13].drop 5).take (Try.prog.cellsOf 3)) = some y5 := hg 5 _ rfl
      have h6 : DataW.trod enc Try.prog w base spare held n' 3 (([c0, c1, c2, c3, c4, c5, c6, c7, c8, c9, c10, c11, c12, c13].drop 6).take (Try.prog.cellsOf 3)) = some y6 := hg 6 _ rfl
      have h7 : DataW.trod enc Try.prog w base spare held n' 3 (([c0, c1, c2, c3, c4, c5, c6, c7, c8, c9, c10, c11, c12, c13].drop 7).take (Try.prog.cellsOf 3)) = some y7 := hg 7 _ rfl
      have h8 : DataW.trod enc Try.prog w base spare held n' 3 (([c0, c1, c2, c3, c4, c5, c6, c7, c8, c9, c10, c11, c12, c13].drop 8).take (Try.prog.cellsOf 3)) = some y8 := hg 8 _ rfl
      have h9 : DataW.trod enc Try.prog w base spare held n' 3 (([c0, c1, c2, c3, c4, c5, c6, c7, c8, c9, c10, c11, c12, c13].drop 9).take (Try.prog.cellsOf 3)) = some y9 := hg 9 _ rfl
      have h10 : DataW.trod enc Try.prog w base spare held n' 3 (([c0, c1, c2, c3, c4, c5, c6, c7, c8, c9, c10, c11, c12, c13].drop 10).take (Try.prog.cellsOf 3)) = some y10 := hg 10 _ rfl
      have h11 : DataW.trod enc Try.prog w base spare held n' 22 (([c0, c1, c2, c3, c4, c5, c6, c7, c8, c9, c10, c11, c12, c13].drop 11).take (Try.prog.cellsOf 22)) = some y11 := hg 11 _ rfl
      have h12 : DataW.trod enc Try.prog w base spare held n' 3 (([c0, c1, c2, c3, c4, c5, c6, c7, c8, c9, c10, c11, c12, c13].drop 12).take (Try.prog.cellsOf 3)) = some y12 := hg 12 _ rfl
      have h13 : DataW.trod enc Try.prog w base spare held n' 3 (([c0, c1, c2, c3, c4, c5, c6, c7, c8, c9, c10, c11, c12, c13].drop 13).take (Try.prog.cellsOf 3)) = some y13 := hg 13 _ rfl
      simp only [cellsInt, cellsBytes, List.drop_zero, List.drop_succ_cons, List.take_succ_cons, List.take_zero] at h0 h1 h2 h3 h4 h5 h6 h7 h8 h9 h10 h11 h12 h13
      obtain ⟨a0, rfl⟩ := intCell h0
      obtain ⟨a1, rfl⟩ := intCell h1
      obtain ⟨a2, rfl⟩ := intCell h2
      obtain ⟨a3, rfl⟩ := intCell h3
      obtain ⟨a4, rfl⟩ := intCell h4
      obtain ⟨a5, rfl⟩ := intCell h5
      obtain ⟨a6, rfl⟩ := intCell h6
      obtain ⟨a7, rfl⟩ := intCell h7
      obtain ⟨a8, rfl⟩ := intCell h8
      obtain ⟨a9, rfl⟩ := intCell h9
      obtain ⟨a10, rfl⟩ := intCell h10
      obtain ⟨a11, g11⟩ := open_rdb h11
      obtain ⟨a12, rfl⟩ := intCell h12
      obtain ⟨a13, rfl⟩ := intCell h13
      exact ⟨⟨a0, a1, a2, a3, a4, a5, a6, a7, a8, a9, a10, a11, a12, a13⟩, _, rfl, g11⟩
end Go.Proofs.Ythdjjgbjemaabaa
