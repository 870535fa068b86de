/-
  Marks of DatIn, and of lists of it. (Written by wip/tools/genmark.py.)
-/
import Derived.Test.YthdjjgbjemaabaaTyDatIn
import Derived.Test.YthdjjgbjemaabaaMark
import Derived.Test.YthdjjgbjemaabaaMkDatPiece
namespace Go.Proofs.Ythdjjgbjemaabaa
open Go.ChangeShapes Go.WideShapes Go.ChangeAt Go.RowKit
set_option linter.unusedVariables false
set_option linter.unusedSimpArgs false


def maDatIn (k : Int) (x : DDatIn) : DDatIn := { xStreams := x.xStreams, xCum := x.xCum, xSeen := marksI (k) x.xSeen.length, xHave := mkL mkDatPiece smDatPiece (k + ((x.xSeen.length : Nat) : Int)) x.xHave, xSsns := marksI (k + ((x.xSeen.length : Nat) : Int) + ((szL smDatPiece x.xHave : Nat) : Int)) x.xSsns.length : DDatIn }
def saDatIn (x : DDatIn) : Nat := x.xSeen.length + szL smDatPiece x.xHave + x.xSsns.length
set_option maxRecDepth 100000 in
set_option maxHeartbeats 2000000 in
theorem markDatIn_m (f : List Nat) (cs : List Value) (k : Int) (x : DDatIn) (w : World) (h : EDatIn w f cs x) (hnd : f.Nodup) (hk : 0 ≤ k) (hs : k + saDatIn x ≤ 4294967296) :
    Calls Try.prog 83 #[.agg cs.toArray, .int .i64 k] w fun e w' => e = .returned (.int .i64 (k + saDatIn x)) ∧ EDatIn w' f cs (maDatIn k x) ∧ FrL f w w' := by
  obtain ⟨v2, v3, v4, f2, f3, f4, rfl, h2, h3, h4, rfl⟩ := h
  skip
  rw [show saDatIn x = x.xSeen.length + szL smDatPiece x.xHave + x.xSsns.length from rfl] at *
  obtain ⟨A2, q2, rfl⟩ := h2.rd.slice
  obtain ⟨A3, q3, rfl⟩ := OwL.slice h3
  obtain ⟨A4, q4, rfl⟩ := h4.rd.slice
  simp only [List.nodup_append] at hnd
  have D2_3 := Lib.hid (show ∀ b ∈ f2, b ∉ f3 by intro b h1 h2; grind)
  have D2_4 := Lib.hid (show ∀ b ∈ f2, b ∉ f4 by intro b h1 h2; grind)
  have D3_2 := Lib.hid (show ∀ b ∈ f3, b ∉ f2 by intro b h1 h2; grind)
  have D3_4 := Lib.hid (show ∀ b ∈ f3, b ∉ f4 by intro b h1 h2; grind)
  have D4_2 := Lib.hid (show ∀ b ∈ f4, b ∉ f2 by intro b h1 h2; grind)
  have D4_3 := Lib.hid (show ∀ b ∈ f4, b ∉ f3 by intro b h1 h2; grind)
  have N3 := Lib.hid (show f3.Nodup by grind)
  have I2 := Lib.hid (show w.heap.size ∉ f2 from fun h => Nat.lt_irrefl _ (h2.inside _ h))
  have I3 := Lib.hid (show w.heap.size ∉ f3 from fun h => Nat.lt_irrefl _ (h3.inside _ h))
  have I4 := Lib.hid (show w.heap.size ∉ f4 from fun h => Nat.lt_irrefl _ (h4.inside _ h))
  generalize hn2 : x.xSeen.length = n2 at *
  have Hn2 := Lib.hid hn2
  generalize hn3 : x.xHave.length = n3 at *
  have Hn3 := Lib.hid hn3
  generalize hn4 : x.xSsns.length = n4 at *
  have Hn4 := Lib.hid hn4
  have K := Lib.hid (Blk.new (w := w) (b := w.heap.size) #[.int .i64 x.xStreams, .int .i64 x.xCum, .slice A2 n2 q2, .slice A3 n3 q3, .slice A4 n4 q4] 87 rfl)
  have HB := (Below.refl w.heap.size w).alloc (Nat.le_refl _) (.cells #[.int .i64 x.xStreams, .int .i64 x.xCum, .slice A2 n2 q2, .slice A3 n3 q3, .slice A4 n4 q4] 87)
  have O2 := Lib.hid (h2.below HB)
  have O3 := Lib.hid (OwL.below EDatPiece.framed EDatPiece.inside h3 HB)
  have O4 := Lib.hid (h4.below HB)
  have HF := Lib.hid (FrL.of_below (bs := f2 ++ f3 ++ f4) HB)
  clear HB hnd h2 hn2 h3 hn3 h4 hn4
  go_enter Try.func83, Try.ntmps83
  go_wp2_with fail
  refine (markIntS_m f2 _ _ x.xSeen _ O2.out (by have := Hn2.out; have := Hn3.out; have := Hn4.out; omega) ⟨(by have := Hn2.out; have := Hn3.out; have := Hn4.out; omega), (by have := Hn2.out; have := Hn3.out; have := Hn4.out; omega)⟩).mono ?_
  rintro e w2' ⟨rfl, o2, r2⟩
  have K := Lib.hid (K.out.frl r2 I2.out)
  have O3 := Lib.hid (OwL.frl EDatPiece.framed EDatPiece.inside O3.out r2 D3_2.out)
  have O4 := Lib.hid (OwIn.frl O4.out r2 D4_2.out)
  have O2 := Lib.hid o2
  have HF := Lib.hid (HF.out.trans (r2.mono (by intro b hb; simp [hb])))
  clear o2 r2
  have k3 := K.out.at (i := 3) rfl
  have k4 := K.out.at (i := 4) rfl
  go_wp2_with fail
  refine (markDatPieceS_m f3 _ _ x.xHave _ O3.out N3.out (by have := Hn2.out; have := Hn3.out; have := Hn4.out; omega) (by have := Hn2.out; have := Hn3.out; have := Hn4.out; omega)).mono ?_
  rintro e w3' ⟨rfl, o3, r3⟩
  have K := Lib.hid (K.out.frl r3 I3.out)
  have O2 := Lib.hid (OwIn.frl O2.out r3 D2_3.out)
  have O4 := Lib.hid (OwIn.frl O4.out r3 D4_3.out)
  have O3 := Lib.hid o3
  have HF := Lib.hid (HF.out.trans (r3.mono (by intro b hb; simp [hb])))
  clear o3 r3 k3 k4
  have k4 := K.out.at (i := 4) rfl
  go_wp2_with fail
  refine (markIntS_m f4 _ _ x.xSsns _ O4.out (by have := Hn2.out; have := Hn3.out; have := Hn4.out; omega) ⟨(by have := Hn2.out; have := Hn3.out; have := Hn4.out; omega), (by have := Hn2.out; have := Hn3.out; have := Hn4.out; omega)⟩).mono ?_
  rintro e w4' ⟨rfl, o4, r4⟩
  have K := Lib.hid (K.out.frl r4 I4.out)
  have O2 := Lib.hid (OwIn.frl O2.out r4 D2_4.out)
  have O3 := Lib.hid (OwL.frl EDatPiece.framed EDatPiece.inside O3.out r4 D3_4.out)
  have O4 := Lib.hid o4
  have HF := Lib.hid (HF.out.trans (r4.mono (by intro b hb; simp [hb])))
  clear o4 r4 k4
  go_wp2
  go_ret
  refine ⟨retI (by have := Hn2.out; have := Hn3.out; have := Hn4.out; omega), ⟨_, _, _, _, _, _, rfl, ?_, ?_, ?_, rfl⟩, HF.out⟩
  · have hh := O2.out
    simp only [maDatIn]
    first | exact hh | (refine Eq.mp (congrArg _ ?_) hh; congr 1; omega)
  · have hh := O3.out
    simp only [maDatIn]
    first | exact hh | (refine Eq.mp (congrArg _ ?_) hh; congr 1; omega)
  · have hh := O4.out
    simp only [maDatIn]
    first | exact hh | (refine Eq.mp (congrArg _ ?_) hh; congr 1; omega)
set_option maxRecDepth 100000 in
set_option maxHeartbeats 2000000 in
theorem heldDatIn_h (cs : List Value) (k : Int) (x : DDatIn) (w : World) (h : FDatIn w cs (maDatIn k x)) (hk : 0 ≤ k) (hs : k + saDatIn x ≤ 4294967296) :
    Calls Try.prog 175 #[.agg cs.toArray, .int .i64 k] w fun e w' => e = .returned (.int .i64 (k + saDatIn x)) ∧ Below w.heap.size w w' := by
  obtain ⟨v2, v3, v4, rfl, h2, h3, h4⟩ := h
  rw [show saDatIn x = x.xSeen.length + szL smDatPiece x.xHave + x.xSsns.length from rfl] at *
  simp only [maDatIn] at *
  obtain ⟨A2, q2, rfl⟩ := h2.slice
  rw [marksI_len] at *
  obtain ⟨A3, q3, rfl⟩ := RdS.slice h3
  rw [mkL_len] at *
  obtain ⟨A4, q4, rfl⟩ := h4.slice
  rw [marksI_len] at *
  have H2 := Lib.hid h2
  clear h2
  have H3 := Lib.hid h3
  clear h3
  have H4 := Lib.hid h4
  clear h4
  generalize hn2 : x.xSeen.length = n2 at *
  have Hn2 := Lib.hid hn2
  clear hn2
  generalize hn3 : x.xHave.length = n3 at *
  have Hn3 := Lib.hid hn3
  clear hn3
  generalize hn4 : x.xSsns.length = n4 at *
  have Hn4 := Lib.hid hn4
  clear hn4
  have K := Lib.hid (Blk.new (w := w) (b := w.heap.size) #[.int .i64 x.xStreams, .int .i64 x.xCum, .slice A2 n2 q2, .slice A3 n3 q3, .slice A4 n4 q4] 87 rfl)
  have HB := Lib.hid ((Below.refl w.heap.size w).alloc (Nat.le_refl _) (.cells #[.int .i64 x.xStreams, .int .i64 x.xCum, .slice A2 n2 q2, .slice A3 n3 q3, .slice A4 n4 q4] 87))
  go_enter Try.func175, Try.ntmps175
  go_wp2_with fail
  refine (heldIntS_h _ _ _ _ (by first | exact H2.out.below HB.out | (have hh := H2.out.below HB.out; refine Eq.mp (congrArg _ ?_) hh; congr 1; omega)) (by have := Hn2.out; have := Hn3.out; have := Hn4.out; omega) ⟨(by have := Hn2.out; have := Hn3.out; have := Hn4.out; omega), (by have := Hn2.out; have := Hn3.out; have := Hn4.out; omega)⟩).mono ?_
  rintro e w2' ⟨rfl, b2⟩
  have K := Lib.hid (K.out.keep b2)
  have HB := Lib.hid (HB.out.trans (b2.mono HB.out.size))
  clear b2
  have k3 := K.out.at (i := 3) rfl
  have k4 := K.out.at (i := 4) rfl
  go_wp2_with fail
  refine (heldDatPieceS_h _ _ x.xHave _ (by first | exact H3.out.below HB.out | (have hh := H3.out.below HB.out; refine Eq.mp (congrArg _ ?_) hh; congr 1; omega)) (by have := Hn2.out; have := Hn3.out; have := Hn4.out; omega) (by have := Hn2.out; have := Hn3.out; have := Hn4.out; omega)).mono ?_
  rintro e w3' ⟨rfl, b3⟩
  have K := Lib.hid (K.out.keep b3)
  have HB := Lib.hid (HB.out.trans (b3.mono HB.out.size))
  clear b3 k3 k4
  have k4 := K.out.at (i := 4) rfl
  go_wp2_with fail
  refine (heldIntS_h _ _ _ _ (by first | exact H4.out.below HB.out | (have hh := H4.out.below HB.out; refine Eq.mp (congrArg _ ?_) hh; congr 1; omega)) (by have := Hn2.out; have := Hn3.out; have := Hn4.out; omega) ⟨(by have := Hn2.out; have := Hn3.out; have := Hn4.out; omega), (by have := Hn2.out; have := Hn3.out; have := Hn4.out; omega)⟩).mono ?_
  rintro e w4' ⟨rfl, b4⟩
  have K := Lib.hid (K.out.keep b4)
  have HB := Lib.hid (HB.out.trans (b4.mono HB.out.size))
  clear b4 k4
  go_wp2
  go_ret
  exact ⟨retI (by have := Hn2.out; have := Hn3.out; have := Hn4.out; omega), HB.out⟩
end Go.Proofs.Ythdjjgbjemaabaa
