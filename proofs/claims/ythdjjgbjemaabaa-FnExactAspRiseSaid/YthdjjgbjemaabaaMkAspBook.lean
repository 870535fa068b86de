/-
  Marks of AspBook, and of lists of it. (Written by wip/tools/genmark.py.)
-/
import Derived.Test.YthdjjgbjemaabaaTyAspBook
import Derived.Test.YthdjjgbjemaabaaMark
import Derived.Test.YthdjjgbjemaabaaMkAspGate
namespace Go.Proofs.Ythdjjgbjemaabaa
open Go.ChangeShapes Go.WideShapes Go.ChangeAt Go.RowKit
set_option linter.unusedVariables false
set_option linter.unusedSimpArgs false


def maAspBook (k : Int) (x : DAspBook) : DAspBook := { xWish := marksI (k) x.xWish.length, xGates := mkL mkAspGate smAspGate (k + ((x.xWish.length : Nat) : Int)) x.xGates : DAspBook }
def saAspBook (x : DAspBook) : Nat := x.xWish.length + szL smAspGate x.xGates
set_option maxRecDepth 100000 in
set_option maxHeartbeats 2000000 in
theorem markAspBook_m (f : List Nat) (cs : List Value) (k : Int) (x : DAspBook) (w : World) (h : EAspBook w f cs x) (hnd : f.Nodup) (hk : 0 ≤ k) (hs : k + saAspBook x ≤ 4294967296) :
    Calls Try.prog 31 #[.agg cs.toArray, .int .i64 k] w fun e w' => e = .returned (.int .i64 (k + saAspBook x)) ∧ EAspBook w' f cs (maAspBook k x) ∧ FrL f w w' := by
  obtain ⟨v0, v1, f0, f1, rfl, h0, h1, rfl⟩ := h
  skip
  rw [show saAspBook x = x.xWish.length + szL smAspGate x.xGates from rfl] at *
  obtain ⟨A0, q0, rfl⟩ := h0.rd.slice
  obtain ⟨A1, q1, rfl⟩ := OwL.slice h1
  simp only [List.nodup_append] at hnd
  have D0_1 := Lib.hid (show ∀ b ∈ f0, b ∉ f1 by intro b h1 h2; grind)
  have D1_0 := Lib.hid (show ∀ b ∈ f1, b ∉ f0 by intro b h1 h2; grind)
  have N1 := Lib.hid (show f1.Nodup by grind)
  have I0 := Lib.hid (show w.heap.size ∉ f0 from fun h => Nat.lt_irrefl _ (h0.inside _ h))
  have I1 := Lib.hid (show w.heap.size ∉ f1 from fun h => Nat.lt_irrefl _ (h1.inside _ h))
  generalize hn0 : x.xWish.length = n0 at *
  have Hn0 := Lib.hid hn0
  generalize hn1 : x.xGates.length = n1 at *
  have Hn1 := Lib.hid hn1
  have K := Lib.hid (Blk.new (w := w) (b := w.heap.size) #[.slice A0 n0 q0, .slice A1 n1 q1] 38 rfl)
  have HB := (Below.refl w.heap.size w).alloc (Nat.le_refl _) (.cells #[.slice A0 n0 q0, .slice A1 n1 q1] 38)
  have O0 := Lib.hid (h0.below HB)
  have O1 := Lib.hid (OwL.below EAspGate.framed EAspGate.inside h1 HB)
  have HF := Lib.hid (FrL.of_below (bs := f0 ++ f1) HB)
  clear HB hnd h0 hn0 h1 hn1
  go_enter Try.func31, Try.ntmps31
  go_wp2_with fail
  refine (markIntS_m f0 _ _ x.xWish _ O0.out (by have := Hn0.out; have := Hn1.out; omega) ⟨(by have := Hn0.out; have := Hn1.out; omega), (by have := Hn0.out; have := Hn1.out; omega)⟩).mono ?_
  rintro e w0' ⟨rfl, o0, r0⟩
  have K := Lib.hid (K.out.frl r0 I0.out)
  have O1 := Lib.hid (OwL.frl EAspGate.framed EAspGate.inside O1.out r0 D1_0.out)
  have O0 := Lib.hid o0
  have HF := Lib.hid (HF.out.trans (r0.mono (by intro b hb; simp [hb])))
  clear o0 r0
  have k1 := K.out.at (i := 1) rfl
  go_wp2_with fail
  refine (markAspGateS_m f1 _ _ x.xGates _ O1.out N1.out (by have := Hn0.out; have := Hn1.out; omega) (by have := Hn0.out; have := Hn1.out; omega)).mono ?_
  rintro e w1' ⟨rfl, o1, r1⟩
  have K := Lib.hid (K.out.frl r1 I1.out)
  have O0 := Lib.hid (OwIn.frl O0.out r1 D0_1.out)
  have O1 := Lib.hid o1
  have HF := Lib.hid (HF.out.trans (r1.mono (by intro b hb; simp [hb])))
  clear o1 r1 k1
  go_wp2
  go_ret
  refine ⟨retI (by have := Hn0.out; have := Hn1.out; omega), ⟨_, _, _, _, rfl, ?_, ?_, rfl⟩, HF.out⟩
  · have hh := O0.out
    simp only [maAspBook]
    first | exact hh | (refine Eq.mp (congrArg _ ?_) hh; congr 1; omega)
  · have hh := O1.out
    simp only [maAspBook]
    first | exact hh | (refine Eq.mp (congrArg _ ?_) hh; congr 1; omega)
set_option maxRecDepth 100000 in
set_option maxHeartbeats 2000000 in
theorem heldAspBook_h (cs : List Value) (k : Int) (x : DAspBook) (w : World) (h : FAspBook w cs (maAspBook k x)) (hk : 0 ≤ k) (hs : k + saAspBook x ≤ 4294967296) :
    Calls Try.prog 32 #[.agg cs.toArray, .int .i64 k] w fun e w' => e = .returned (.int .i64 (k + saAspBook x)) ∧ Below w.heap.size w w' := by
  obtain ⟨v0, v1, rfl, h0, h1⟩ := h
  rw [show saAspBook x = x.xWish.length + szL smAspGate x.xGates from rfl] at *
  simp only [maAspBook] at *
  obtain ⟨A0, q0, rfl⟩ := h0.slice
  rw [marksI_len] at *
  obtain ⟨A1, q1, rfl⟩ := RdS.slice h1
  rw [mkL_len] at *
  have H0 := Lib.hid h0
  clear h0
  have H1 := Lib.hid h1
  clear h1
  generalize hn0 : x.xWish.length = n0 at *
  have Hn0 := Lib.hid hn0
  clear hn0
  generalize hn1 : x.xGates.length = n1 at *
  have Hn1 := Lib.hid hn1
  clear hn1
  have K := Lib.hid (Blk.new (w := w) (b := w.heap.size) #[.slice A0 n0 q0, .slice A1 n1 q1] 38 rfl)
  have HB := Lib.hid ((Below.refl w.heap.size w).alloc (Nat.le_refl _) (.cells #[.slice A0 n0 q0, .slice A1 n1 q1] 38))
  go_enter Try.func32, Try.ntmps32
  go_wp2_with fail
  refine (heldIntS_h _ _ _ _ (by first | exact H0.out.below HB.out | (have hh := H0.out.below HB.out; refine Eq.mp (congrArg _ ?_) hh; congr 1; omega)) (by have := Hn0.out; have := Hn1.out; omega) ⟨(by have := Hn0.out; have := Hn1.out; omega), (by have := Hn0.out; have := Hn1.out; omega)⟩).mono ?_
  rintro e w0' ⟨rfl, b0⟩
  have K := Lib.hid (K.out.keep b0)
  have HB := Lib.hid (HB.out.trans (b0.mono HB.out.size))
  clear b0
  have k1 := K.out.at (i := 1) rfl
  go_wp2_with fail
  refine (heldAspGateS_h _ _ x.xGates _ (by first | exact H1.out.below HB.out | (have hh := H1.out.below HB.out; refine Eq.mp (congrArg _ ?_) hh; congr 1; omega)) (by have := Hn0.out; have := Hn1.out; omega) (by have := Hn0.out; have := Hn1.out; omega)).mono ?_
  rintro e w1' ⟨rfl, b1⟩
  have K := Lib.hid (K.out.keep b1)
  have HB := Lib.hid (HB.out.trans (b1.mono HB.out.size))
  clear b1 k1
  go_wp2
  go_ret
  exact ⟨retI (by have := Hn0.out; have := Hn1.out; omega), HB.out⟩
end Go.Proofs.Ythdjjgbjemaabaa
