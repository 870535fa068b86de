/-
  Marks of AscEnd, and of lists of it. (Written by wip/tools/genmark.py.)
-/
import Derived.Test.YthdjjgbjemaabaaTyAscEnd
import Derived.Test.YthdjjgbjemaabaaMark
namespace Go.Proofs.Ythdjjgbjemaabaa
open Go.ChangeShapes Go.WideShapes Go.ChangeAt Go.RowKit
set_option linter.unusedVariables false
set_option linter.unusedSimpArgs false


def maAscEnd (k : Int) (x : DAscEnd) : DAscEnd := { xMe := x.xMe, xPeer := x.xPeer, xSecret := x.xSecret, xWish := x.xWish, xLast := x.xLast, xState := x.xState, xTag := x.xTag, xPeerTag := x.xPeerTag, xTsn := x.xTsn, xPeerTsn := x.xPeerTsn, xStreams := x.xStreams, xCookie := marks (k) x.xCookie.length, xTries := x.xTries, xLeft := x.xLeft : DAscEnd }
def saAscEnd (x : DAscEnd) : Nat := x.xCookie.length
set_option maxRecDepth 100000 in
set_option maxHeartbeats 2000000 in
theorem markAscEnd_m (f : List Nat) (cs : List Value) (k : Int) (x : DAscEnd) (w : World) (h : EAscEnd w f cs x) (hnd : f.Nodup) (hk : 0 ≤ k) (hs : k + saAscEnd x ≤ 4294967296) :
    Calls Try.prog 53 #[.agg cs.toArray, .int .i64 k] w fun e w' => e = .returned (.int .i64 (k + saAscEnd x)) ∧ EAscEnd w' f cs (maAscEnd k x) ∧ FrL f w w' := by
  obtain ⟨v11, f11, rfl, h11, hff⟩ := h
  obtain rfl := hff.symm
  rw [show saAscEnd x = x.xCookie.length from rfl] at *
  obtain ⟨A11, q11, rfl⟩ := h11.rd.slice
  have I11 := Lib.hid (show w.heap.size ∉ f11 from fun h => Nat.lt_irrefl _ (h11.inside _ h))
  generalize hn11 : x.xCookie.length = n11 at *
  have Hn11 := Lib.hid hn11
  have K := Lib.hid (Blk.new (w := w) (b := w.heap.size) #[.int .i64 x.xMe, .int .i64 x.xPeer, .int .i64 x.xSecret, .int .i64 x.xWish, .int .i64 x.xLast, .int .i64 x.xState, .int .i64 x.xTag, .int .i64 x.xPeerTag, .int .i64 x.xTsn, .int .i64 x.xPeerTsn, .int .i64 x.xStreams, .slice A11 n11 q11, .int .i64 x.xTries, .int .i64 x.xLeft] 67 rfl)
  have HB := (Below.refl w.heap.size w).alloc (Nat.le_refl _) (.cells #[.int .i64 x.xMe, .int .i64 x.xPeer, .int .i64 x.xSecret, .int .i64 x.xWish, .int .i64 x.xLast, .int .i64 x.xState, .int .i64 x.xTag, .int .i64 x.xPeerTag, .int .i64 x.xTsn, .int .i64 x.xPeerTsn, .int .i64 x.xStreams, .slice A11 n11 q11, .int .i64 x.xTries, .int .i64 x.xLeft] 67)
  have O11 := Lib.hid (h11.below HB)
  have HF := Lib.hid (FrL.of_below (bs := f11) HB)
  clear HB hnd h11 hn11
  go_enter Try.func53, Try.ntmps53
  go_wp2_with fail
  refine (markByteS_m f11 _ _ x.xCookie _ O11.out (by have := Hn11.out; omega) ⟨(by have := Hn11.out; omega), (by have := Hn11.out; omega)⟩).mono ?_
  rintro e w11' ⟨rfl, o11, r11⟩
  have K := Lib.hid (K.out.frl r11 I11.out)
  have O11 := Lib.hid o11
  have HF := Lib.hid (HF.out.trans (r11.mono (by intro b hb; simp [hb])))
  clear o11 r11
  go_wp2
  go_ret
  refine ⟨retI (by have := Hn11.out; omega), ⟨_, _, rfl, ?_, rfl⟩, HF.out⟩
  · have hh := O11.out
    simp only [maAscEnd]
    first | exact hh | (refine Eq.mp (congrArg _ ?_) hh; congr 1; omega)
set_option maxRecDepth 100000 in
set_option maxHeartbeats 2000000 in
theorem heldAscEnd_h (cs : List Value) (k : Int) (x : DAscEnd) (w : World) (h : FAscEnd w cs (maAscEnd k x)) (hk : 0 ≤ k) (hs : k + saAscEnd x ≤ 4294967296) :
    Calls Try.prog 55 #[.agg cs.toArray, .int .i64 k] w fun e w' => e = .returned (.int .i64 (k + saAscEnd x)) ∧ Below w.heap.size w w' := by
  obtain ⟨v11, rfl, h11⟩ := h
  rw [show saAscEnd x = x.xCookie.length from rfl] at *
  simp only [maAscEnd] at *
  obtain ⟨A11, q11, rfl⟩ := h11.slice
  rw [marks_len] at *
  have H11 := Lib.hid h11
  clear h11
  generalize hn11 : x.xCookie.length = n11 at *
  have Hn11 := Lib.hid hn11
  clear hn11
  have K := Lib.hid (Blk.new (w := w) (b := w.heap.size) #[.int .i64 x.xMe, .int .i64 x.xPeer, .int .i64 x.xSecret, .int .i64 x.xWish, .int .i64 x.xLast, .int .i64 x.xState, .int .i64 x.xTag, .int .i64 x.xPeerTag, .int .i64 x.xTsn, .int .i64 x.xPeerTsn, .int .i64 x.xStreams, .slice A11 n11 q11, .int .i64 x.xTries, .int .i64 x.xLeft] 67 rfl)
  have HB := Lib.hid ((Below.refl w.heap.size w).alloc (Nat.le_refl _) (.cells #[.int .i64 x.xMe, .int .i64 x.xPeer, .int .i64 x.xSecret, .int .i64 x.xWish, .int .i64 x.xLast, .int .i64 x.xState, .int .i64 x.xTag, .int .i64 x.xPeerTag, .int .i64 x.xTsn, .int .i64 x.xPeerTsn, .int .i64 x.xStreams, .slice A11 n11 q11, .int .i64 x.xTries, .int .i64 x.xLeft] 67))
  go_enter Try.func55, Try.ntmps55
  go_wp2_with fail
  refine (heldByteS_h _ _ _ _ (by first | exact H11.out.below HB.out | (have hh := H11.out.below HB.out; refine Eq.mp (congrArg _ ?_) hh; congr 1; omega)) (by have := Hn11.out; omega) ⟨(by have := Hn11.out; omega), (by have := Hn11.out; omega)⟩).mono ?_
  rintro e w11' ⟨rfl, b11⟩
  have K := Lib.hid (K.out.keep b11)
  have HB := Lib.hid (HB.out.trans (b11.mono HB.out.size))
  clear b11
  go_wp2
  go_ret
  exact ⟨retI (by have := Hn11.out; omega), HB.out⟩
end Go.Proofs.Ythdjjgbjemaabaa
