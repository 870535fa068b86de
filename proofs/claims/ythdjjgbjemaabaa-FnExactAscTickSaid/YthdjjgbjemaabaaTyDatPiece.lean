/-
  Words and the laws' helpers of DatPiece and of lists of it. (Written by wip/tools/gentype.py.)
-/
import Derived.Test.YthdjjgbjemaabaaKin
namespace Go.Proofs.Ythdjjgbjemaabaa
open Go.ChangeShapes Go.WideShapes Go.ChangeAt Go.RowKit
set_option linter.unusedVariables false
set_option linter.unusedSimpArgs false

structure DDatPiece where
  xTsn : Int
  xStream : Int
  xSsn : Int
  xFirst : Bool
  xLast : Bool
  xLoose : Bool
  xBody : List UInt8
def FDatPiece (w : World) (cs : List Value) (x : DDatPiece) : Prop := ∃ v6 : Value, cs = [.int .i64 x.xTsn, .int .i64 x.xStream, .int .i64 x.xSsn, .bool x.xFirst, .bool x.xLast, .bool x.xLoose, v6] ∧ RdB w v6 x.xBody
def EDatPiece (w : World) (f : List Nat) (cs : List Value) (x : DDatPiece) : Prop := ∃ (v6 : Value) (f6 : List Nat), cs = [.int .i64 x.xTsn, .int .i64 x.xStream, .int .i64 x.xSsn, .bool x.xFirst, .bool x.xLast, .bool x.xLoose, v6] ∧ OwBy w f6 v6 x.xBody ∧ f = f6
theorem FDatPiece.below {w w' : World} {cs : List Value} {x : DDatPiece} (h : FDatPiece w cs x) (hb : Below w.heap.size w w') : FDatPiece w' cs x := by
  obtain ⟨v6, rfl, h6⟩ := h
  exact ⟨v6, rfl, h6.below hb⟩
theorem EDatPiece.framed : Framed EDatPiece := by
  rintro w w' f cs x ⟨v6, f6, rfl, h6, rfl⟩ hb
  exact ⟨_, _, rfl, h6.keep (fun b h => hb b (by simp [h])), rfl⟩
theorem EDatPiece.inside : Inside EDatPiece := by
  rintro w f cs x ⟨v6, f6, rfl, h6, rfl⟩ b hb
  exact h6.inside b hb
theorem EDatPiece.rd {w : World} {f : List Nat} {cs : List Value} {x : DDatPiece} (h : EDatPiece w f cs x) : FDatPiece w cs x := by
  obtain ⟨v6, f6, rfl, h6, rfl⟩ := h
  exact ⟨v6, rfl, h6.rd⟩
abbrev RdDatPieceS (w : World) (v : Value) (xs : List DDatPiece) : Prop := RdS 7 FDatPiece w v xs
def OwDatPieceS (w : World) (f : List Nat) (v : Value) (xs : List DDatPiece) : Prop := OwL 276 7 EDatPiece w f v xs
theorem RdDatPieceS.below {w w' : World} {v : Value} {xs : List DDatPiece} (h : RdDatPieceS w v xs) (hb : Below w.heap.size w w') : RdDatPieceS w' v xs := RdS.below (fun _ _ h => h.below hb) h hb
theorem RdDatPieceS.slice {w : World} {v : Value} {xs : List DDatPiece} (h : RdDatPieceS w v xs) : ∃ A c, v = .slice A xs.length c := RdS.slice h
theorem OwDatPieceS.keep {w w' : World} {f : List Nat} {v : Value} {xs : List DDatPiece} (h : OwDatPieceS w f v xs) (hb : ∀ b ∈ f, w'.heap[b]? = w.heap[b]?) : OwDatPieceS w' f v xs := OwL.keep EDatPiece.framed h hb
theorem OwDatPieceS.inside {w : World} {f : List Nat} {v : Value} {xs : List DDatPiece} (h : OwDatPieceS w f v xs) : ∀ b ∈ f, b < w.heap.size := OwL.inside EDatPiece.inside h
theorem OwDatPieceS.rd {w : World} {f : List Nat} {v : Value} {xs : List DDatPiece} (h : OwDatPieceS w f v xs) : RdDatPieceS w v xs := OwL.rd (fun _ _ _ h => h.rd) h
def zDatPiece (x : DDatPiece) : Nat := x.xBody.length

set_option maxHeartbeats 1000000 in
theorem szDatPiece_z (cs : List Value) (x : DDatPiece) (left : Int) (w : World) (h : FDatPiece w cs x) (hl : 0 ≤ left ∧ left ≤ 1048576) :
    Calls Try.prog 266 #[.agg cs.toArray, .int .i64 left] w fun e w' => e = .returned (.int .i64 (szR left (zDatPiece x))) ∧ Below w.heap.size w w' := by
  obtain ⟨v6, rfl, h6⟩ := h
  have Hz := Lib.hid (show zDatPiece x = x.xBody.length from rfl)
  generalize zDatPiece x = zx at Hz ⊢
  have K := Lib.hid (Blk.new (w := w) (b := w.heap.size) #[.int .i64 x.xTsn, .int .i64 x.xStream, .int .i64 x.xSsn, .bool x.xFirst, .bool x.xLast, .bool x.xLoose, v6] 283 rfl)
  have HB := Lib.hid ((Below.refl w.heap.size w).alloc (Nat.le_refl _) (.cells #[.int .i64 x.xTsn, .int .i64 x.xStream, .int .i64 x.xSsn, .bool x.xFirst, .bool x.xLast, .bool x.xLoose, v6] 283))
  have H6 := Lib.hid h6
  clear h6
  go_enter Try.func266, Try.ntmps266
  go_wp2_with fail
  refine (szByteS_z _ x.xBody _ _ (H6.out.below HB.out) ⟨by omega, by omega⟩).mono ?_
  rintro e w1 ⟨rfl, b1⟩
  have K := Lib.hid (K.out.keep b1)
  have HB := Lib.hid (HB.out.trans (b1.mono HB.out.size))
  clear b1
  have hr0 := szR_cases left (x.xBody.length) (by omega)
  generalize szR left (x.xBody.length) = r0 at *
  rcases hr0 with ⟨rfl, hr0⟩ | ⟨hr0, hs0, ht0⟩
  · have Q := Lib.hid hr0
    go_wp2
    go_ret
    refine ⟨retI ?_, HB.out⟩
    have hz := Hz.out
    have hq := Q.out
    rw [szR_no (by omega)]
  have hz := Hz.out
  have Hf := Lib.hid (show szR left zx = r0 by rw [szR_yes (by omega)]; omega)
  clear hz
  go_wp2
  go_ret
  exact ⟨retI Hf.out.symm, HB.out⟩

set_option maxRecDepth 100000 in
set_option maxHeartbeats 2000000 in
theorem toDatPiece_n (cs : List Value) (x : DDatPiece) (w : World) (h : FDatPiece w cs x) (hz : zDatPiece x ≤ 1048576) :
    Calls Try.prog 269 #[.agg cs.toArray] w fun e w' => ∃ cs' f, e = .returned (.agg cs'.toArray) ∧ EDatPiece w' f cs' x ∧ Nw w.heap.size w'.heap.size f ∧ Below w.heap.size w w' := by
  obtain ⟨v6, rfl, h6⟩ := h
  simp only [zDatPiece] at hz
  have H6 := Lib.hid h6
  clear h6
  have Hz := Lib.hid hz
  clear hz
  have KA := Lib.hid (((Blk.new (w := w) (b := w.heap.size) #[.int .i64 x.xTsn, .int .i64 x.xStream, .int .i64 x.xSsn, .bool x.xFirst, .bool x.xLast, .bool x.xLoose, v6] 283 rfl).alloc (.cells #[.int .i64 0, .int .i64 0, .int .i64 0, .bool false, .bool false, .bool false, .slice none 0 0] 276)).alloc (.cells #[.int .i64 x.xTsn, .int .i64 x.xStream, .int .i64 x.xSsn, .bool x.xFirst, .bool x.xLast, .bool x.xLoose, .slice none 0 0] 276))
  have KR := Lib.hid ((Blk.new (w := w.alloc (.cells #[.int .i64 x.xTsn, .int .i64 x.xStream, .int .i64 x.xSsn, .bool x.xFirst, .bool x.xLast, .bool x.xLoose, v6] 283)) (b := w.heap.size + 1) #[.int .i64 0, .int .i64 0, .int .i64 0, .bool false, .bool false, .bool false, .slice none 0 0] 276 (by simp)).alloc (.cells #[.int .i64 x.xTsn, .int .i64 x.xStream, .int .i64 x.xSsn, .bool x.xFirst, .bool x.xLast, .bool x.xLoose, .slice none 0 0] 276))
  have KO := Lib.hid (Blk.new (w := (w.alloc (.cells #[.int .i64 x.xTsn, .int .i64 x.xStream, .int .i64 x.xSsn, .bool x.xFirst, .bool x.xLast, .bool x.xLoose, v6] 283)).alloc (.cells #[.int .i64 0, .int .i64 0, .int .i64 0, .bool false, .bool false, .bool false, .slice none 0 0] 276)) (b := w.heap.size + 1 + 1) #[.int .i64 x.xTsn, .int .i64 x.xStream, .int .i64 x.xSsn, .bool x.xFirst, .bool x.xLast, .bool x.xLoose, .slice none 0 0] 276 (by simp))
  have HB := Lib.hid (below3 w (.cells #[.int .i64 x.xTsn, .int .i64 x.xStream, .int .i64 x.xSsn, .bool x.xFirst, .bool x.xLast, .bool x.xLoose, v6] 283) (.cells #[.int .i64 0, .int .i64 0, .int .i64 0, .bool false, .bool false, .bool false, .slice none 0 0] 276) (.cells #[.int .i64 x.xTsn, .int .i64 x.xStream, .int .i64 x.xSsn, .bool x.xFirst, .bool x.xLast, .bool x.xLoose, .slice none 0 0] 276))
  have HS : w.heap.size + 3 ≤ (((w.alloc (.cells #[.int .i64 x.xTsn, .int .i64 x.xStream, .int .i64 x.xSsn, .bool x.xFirst, .bool x.xLast, .bool x.xLoose, v6] 283)).alloc (.cells #[.int .i64 0, .int .i64 0, .int .i64 0, .bool false, .bool false, .bool false, .slice none 0 0] 276)).alloc (.cells #[.int .i64 x.xTsn, .int .i64 x.xStream, .int .i64 x.xSsn, .bool x.xFirst, .bool x.xLast, .bool x.xLoose, .slice none 0 0] 276)).heap.size := by simp
  go_enter Try.func269, Try.ntmps269
  go_wp2_with fail
  refine (toByteS_n _ x.xBody _ (H6.out.below (by exact HB.out)) (by have := Hz.out; omega)).mono ?_
  rintro e w1 ⟨u6, g6, rfl, o6, n6, b1⟩
  obtain ⟨A6, c6, rfl⟩ := o6.rd.slice
  have KA := Lib.hid (KA.out.keep b1)
  have KR := Lib.hid (KR.out.keep b1)
  have KO := Lib.hid (KO.out.keep b1)
  have HS : w.heap.size + 3 ≤ w1.heap.size := Nat.le_trans HS b1.size
  have S1 := Lib.hid HS
  have FR0 := Lib.hid (FrL.refl [w.heap.size + 1, w.heap.size + 1 + 1] w1)
  have HB := Lib.hid (HB.out.trans (b1.mono HB.out.size))
  have O6 := Lib.hid o6
  have N0 := Lib.hid (n6.mono (lo' := w.heap.size + 3) (by simp) (Nat.le_refl _))
  clear o6 n6 b1
  have ac0 := KA.out.at (i := 0) rfl
  have oc0 := KO.out.at (i := 0) rfl
  have rc0 := KR.out.at (i := 0) rfl
  have rf0 := KR.out.frozen 0
  have ac1 := KA.out.at (i := 1) rfl
  have oc1 := KO.out.at (i := 1) rfl
  have rc1 := KR.out.at (i := 1) rfl
  have rf1 := KR.out.frozen 1
  have ac2 := KA.out.at (i := 2) rfl
  have oc2 := KO.out.at (i := 2) rfl
  have rc2 := KR.out.at (i := 2) rfl
  have rf2 := KR.out.frozen 2
  have ac3 := KA.out.at (i := 3) rfl
  have oc3 := KO.out.at (i := 3) rfl
  have rc3 := KR.out.at (i := 3) rfl
  have rf3 := KR.out.frozen 3
  have ac4 := KA.out.at (i := 4) rfl
  have oc4 := KO.out.at (i := 4) rfl
  have rc4 := KR.out.at (i := 4) rfl
  have rf4 := KR.out.frozen 4
  have ac5 := KA.out.at (i := 5) rfl
  have oc5 := KO.out.at (i := 5) rfl
  have rc5 := KR.out.at (i := 5) rfl
  have rf5 := KR.out.frozen 5
  have ac6 := KA.out.at (i := 6) rfl
  have oc6 := KO.out.at (i := 6) rfl
  have of6 := KO.out.frozen 6
  have rc6 := KR.out.at (i := 6) rfl
  have rf6 := KR.out.frozen 6
  have KA := Lib.hid (KA.out.far (b' := w.heap.size + 1 + 1) (o := 6) (v := .slice A6 x.xBody.length c6) (by omega))
  have KR := Lib.hid (KR.out.far (b' := w.heap.size + 1 + 1) (o := 6) (v := .slice A6 x.xBody.length c6) (by omega))
  have KO := Lib.hid (KO.out.set (i := 6) (v := .slice A6 x.xBody.length c6) (by simp))
  have FR0 := Lib.hid (FR0.out.set (g := w.heap.size + 1 + 1) (o := 6) (.slice A6 x.xBody.length c6) (by simp))
  have HB := Lib.hid (HB.out.setCell (p := ⟨w.heap.size + 1 + 1, 6, none⟩) (by simp <;> omega) (.slice A6 x.xBody.length c6))
  have FR0 := Lib.hid (FR0.out.set (g := w.heap.size + 1) (o := 0) (.int .i64 x.xTsn) (by simp))
  have HB := Lib.hid (HB.out.setCell (p := ⟨w.heap.size + 1, 0, none⟩) (by simp <;> omega) (.int .i64 x.xTsn))
  have FR0 := Lib.hid (FR0.out.set (g := w.heap.size + 1) (o := 1) (.int .i64 x.xStream) (by simp))
  have HB := Lib.hid (HB.out.setCell (p := ⟨w.heap.size + 1, 1, none⟩) (by simp <;> omega) (.int .i64 x.xStream))
  have FR0 := Lib.hid (FR0.out.set (g := w.heap.size + 1) (o := 2) (.int .i64 x.xSsn) (by simp))
  have HB := Lib.hid (HB.out.setCell (p := ⟨w.heap.size + 1, 2, none⟩) (by simp <;> omega) (.int .i64 x.xSsn))
  have FR0 := Lib.hid (FR0.out.set (g := w.heap.size + 1) (o := 3) (.bool x.xFirst) (by simp))
  have HB := Lib.hid (HB.out.setCell (p := ⟨w.heap.size + 1, 3, none⟩) (by simp <;> omega) (.bool x.xFirst))
  have FR0 := Lib.hid (FR0.out.set (g := w.heap.size + 1) (o := 4) (.bool x.xLast) (by simp))
  have HB := Lib.hid (HB.out.setCell (p := ⟨w.heap.size + 1, 4, none⟩) (by simp <;> omega) (.bool x.xLast))
  have FR0 := Lib.hid (FR0.out.set (g := w.heap.size + 1) (o := 5) (.bool x.xLoose) (by simp))
  have HB := Lib.hid (HB.out.setCell (p := ⟨w.heap.size + 1, 5, none⟩) (by simp <;> omega) (.bool x.xLoose))
  have FR0 := Lib.hid (FR0.out.set (g := w.heap.size + 1) (o := 6) (.slice A6 x.xBody.length c6) (by simp))
  have HB := Lib.hid (HB.out.setCell (p := ⟨w.heap.size + 1, 6, none⟩) (by simp <;> omega) (.slice A6 x.xBody.length c6))
  clear KR
  go_wp2
  refine bodyPost_ret (v := .agg #[.int .i64 x.xTsn, .int .i64 x.xStream, .int .i64 x.xSsn, .bool x.xFirst, .bool x.xLast, .bool x.xLoose, .slice A6 x.xBody.length c6]) (by simp [results, Try.results269, go_sem, rc0, rc1, rc2, rc3, rc4, rc5, rc6]) rfl ⟨[.int .i64 x.xTsn, .int .i64 x.xStream, .int .i64 x.xSsn, .bool x.xFirst, .bool x.xLast, .bool x.xLoose, .slice A6 x.xBody.length c6], _, rfl, ⟨_, _, rfl, O6.out.keep ?_, rfl⟩, ?_, ?_⟩
  · exact (fun b hb => FR0.out.block b (O6.out.inside b hb) (by have h1 := (N0.out.2 b hb).1; simp only [List.mem_cons, List.not_mem_nil, or_false, not_or]; omega))
  · have h := N0.out
    exact h.mono (by omega) (by simp only [size_set]; omega)
  · exact HB.out

set_option maxHeartbeats 2000000 in
theorem eqDatPiece_s (cs ds : List Value) (x : DDatPiece) (w : World) (h : FDatPiece w cs x) (k : FDatPiece w ds x) (hz : zDatPiece x ≤ 1048576) :
    Calls Try.prog 275 #[.agg cs.toArray, .agg ds.toArray] w fun e w' => e = .returned (.bool true) ∧ Below w.heap.size w w' := by
  obtain ⟨v6, rfl, h6⟩ := h
  obtain ⟨u6, rfl, k6⟩ := k
  simp only [zDatPiece] at hz
  have Hz := Lib.hid hz
  clear hz
  have KA := Lib.hid ((Blk.new (w := w) (b := w.heap.size) #[.int .i64 x.xTsn, .int .i64 x.xStream, .int .i64 x.xSsn, .bool x.xFirst, .bool x.xLast, .bool x.xLoose, v6] 276 rfl).alloc (.cells #[.int .i64 x.xTsn, .int .i64 x.xStream, .int .i64 x.xSsn, .bool x.xFirst, .bool x.xLast, .bool x.xLoose, u6] 276))
  have KB := Lib.hid (Blk.new (w := w.alloc (.cells #[.int .i64 x.xTsn, .int .i64 x.xStream, .int .i64 x.xSsn, .bool x.xFirst, .bool x.xLast, .bool x.xLoose, v6] 276)) (b := w.heap.size + 1) #[.int .i64 x.xTsn, .int .i64 x.xStream, .int .i64 x.xSsn, .bool x.xFirst, .bool x.xLast, .bool x.xLoose, u6] 276 (by simp))
  have HB := Lib.hid (below2 w (.cells #[.int .i64 x.xTsn, .int .i64 x.xStream, .int .i64 x.xSsn, .bool x.xFirst, .bool x.xLast, .bool x.xLoose, v6] 276) (.cells #[.int .i64 x.xTsn, .int .i64 x.xStream, .int .i64 x.xSsn, .bool x.xFirst, .bool x.xLast, .bool x.xLoose, u6] 276))
  have H6 := Lib.hid h6
  have K6 := Lib.hid k6
  clear h6 k6
  go_enter Try.func275, Try.ntmps275
  go_wp2_with fail
  refine (eqByteS_s _ _ x.xBody _ (H6.out.below (by exact HB.out)) (K6.out.below (by exact HB.out)) (by have := Hz.out; omega)).mono ?_
  rintro e w1 ⟨rfl, b1⟩
  have KA := Lib.hid (KA.out.keep b1)
  have KB := Lib.hid (KB.out.keep b1)
  have HB := Lib.hid (HB.out.trans (b1.mono HB.out.size))
  clear b1
  go_wp2
  go_ret
  exact ⟨rfl, HB.out⟩

set_option maxHeartbeats 1000000 in
theorem szDatPieceS_z (v : Value) (xs : List DDatPiece) (left : Int) (w : World) (hv : RdDatPieceS w v xs) (hl : 0 ≤ left ∧ left ≤ 1048576) :
    Calls Try.prog 193 #[v, .int .i64 left] w fun e w' => e = .returned (.int .i64 (szR left (zL zDatPiece xs))) ∧ Below w.heap.size w w' := by
  obtain ⟨A, c, rfl⟩ := RdS.slice hv
  have hc := RdS.cap hv
  have hzl : zL zDatPiece xs = xs.length + szL zDatPiece xs := rfl
  generalize zL zDatPiece xs = zx at *
  generalize hl' : xs.length = n at *
  have Hl := Lib.hid hl'
  have Hv := Lib.hid hv
  have Hz := Lib.hid hzl
  clear hl' hv hzl
  by_cases hn : (n : Int) ≤ left
  · go_enter Try.func193, Try.ntmps193
    go_wp2
    go_loopw [1, 5] (fun q i w1 => ∃ (j : Nat) (l : Int), j ≤ n ∧ i = .int .i64 j ∧ q = .int .i64 l ∧ 0 ≤ l ∧ l ≤ 1048576 ∧ l + szL zDatPiece (xs.take j) + n = left ∧ Below w.heap.size w w1) (fun _ i _ => n - (intOf i).toNat)
    case atStart => exact ⟨0, left - n, by omega, rfl, rfl, by omega, by omega, by simp [szL], Below.refl _ _⟩
    case round =>
      obtain ⟨j, l, hj, rfl, rfl, hl0, hl1, hb, hw⟩ := hrel
      have Hb := Lib.hid hb
      have Hw := Lib.hid hw
      clear hb hw
      by_cases hlt : j < n
      · obtain ⟨ad, cs, hk, rfl, hcl, hca, hE⟩ := RdS.at_ (Hv.out.below Hw.out) hlt
        have HE := Lib.hid hE
        obtain ⟨v6, rfl, h6⟩ := hE
        have c0 := hca.c0
        have c1 := hca.ci 0 rfl
        have c2 := hca.ci 1 rfl
        have c3 := hca.ci 2 rfl
        have c4 := hca.ci 3 rfl
        have c5 := hca.ci 4 rfl
        have c6 := hca.ci 5 rfl
        clear hca hcl h6
        have hr := szR_cases l (zDatPiece xs[j]) (by omega)
        go_wp2_with fail
        refine (szDatPiece_z _ xs[j] _ _ HE.out ⟨hl0, hl1⟩).mono ?_
        rintro e w2 ⟨rfl, hb2⟩
        have Hb2 := Lib.hid (Hw.out.trans (hb2.mono Hw.out.size))
        clear hb2 c0 c1 c2 c3 c4 c5 c6
        have Hx := Lib.hid (szL_take_succ (sz := zDatPiece) hk)
        have Hy := Lib.hid (szL_take_le (sz := zDatPiece) (xs := xs) (j + 1))
        generalize szR l (zDatPiece xs[j]) = r at *
        rcases hr with ⟨rfl, hr⟩ | ⟨h1, h2, h3⟩
        · have Hr := Lib.hid hr
          clear hr
          go_wp2
          go_ret
          refine ⟨retI ?_, Hb2.out⟩
          have h4 := Hb.out
          have h5 := Hx.out
          have h6 := Hy.out
          have h7 := Hz.out
          have h8 := Hr.out
          rw [szR_no (by omega)]
        · have H3 := Lib.hid h3
          clear h3
          go_wp2
          refine ⟨⟨j + 1, r, by omega, by go_num, rfl, h1, h2, ?_, Hb2.out⟩, by simp [intOf]; omega⟩
          have h4 := Hb.out
          have h5 := H3.out
          rw [Hx.out]
          omega
      · have : j = n := by omega
        subst this
        have hf : szR left zx = l := by
          have h4 := Hb.out
          have h7 := Hz.out
          rw [List.take_of_length_le (by rw [Hl.out]; omega)] at h4
          rw [szR_yes (by omega)]; omega
        have Hf := Lib.hid hf
        clear hf
        go_wp2
        go_ret
        exact ⟨retI Hf.out.symm, Hw.out⟩
  · have hf : szR left zx = -1 := by have h7 := Hz.out; rw [szR_no (by omega)]
    have Hf := Lib.hid hf
    clear hf
    go_enter Try.func193, Try.ntmps193
    go_wp2
    go_ret
    exact ⟨retI Hf.out.symm, Below.refl _ _⟩
theorem info_DatPiece : (Try.prog.info? 276).map (fun i => (i.zero, i.size)) = some (some (.agg #[.int .i64 0, .int .i64 0, .int .i64 0, .bool false, .bool false, .bool false, .slice none 0 0]), 7) := by kernel_rfl
theorem infob_DatPiece : (match Try.prog.info? 276 with | some i => decide (i.bytes ≤ 4096) | none => false) = true := by kernel_rfl

set_option maxRecDepth 100000 in
set_option maxHeartbeats 1000000 in
theorem toDatPieceS_n (v : Value) (xs : List DDatPiece) (w : World) (hv : RdDatPieceS w v xs) (hz : zL zDatPiece xs ≤ 1048576) :
    Calls Try.prog 196 #[v] w fun e w' => ∃ v' f, e = .returned v' ∧ OwDatPieceS w' f v' xs ∧ Nw w.heap.size w'.heap.size f ∧ Below w.heap.size w w' := by
  obtain ⟨i0, hi0, hz0, hz1, hz2⟩ := info_parts2 info_DatPiece infob_DatPiece
  have hn : xs.length ≤ 1048576 := by unfold zL at hz; omega
  have hx : ∀ x ∈ xs, zDatPiece x ≤ 1048576 := fun x h => by have := szL_mem (z := zDatPiece) h; unfold zL at hz; omega
  clear hz
  obtain ⟨A, c, rfl⟩ := RdS.slice hv
  generalize hl : xs.length = n at *
  have Hl := Lib.hid hl
  have Hv := Lib.hid hv
  have Hx := Lib.hid hx
  clear hl hv hx
  go_enter Try.func196, Try.ntmps196
  go_wp2_with (at_make; refine wpList_make_full _ rfl _ _ 85 rfl 0 276 i0 _ 7 Try.underlying85 hi0 hz0 hz1 _ _ _ _ n rfl rfl rfl rfl (make_room hz2 hn) (by unfold maxLen; omega) (Nat.zero_le _) ?_; intro w1 h1 h2)
  generalize hzs : (madeCells _ (n * 7)).toList = zs at h1
  have Z := Lib.hid (show zs.length = n * 7 from h1.1)
  have F1 := Lib.hid (Fill.start (E := EDatPiece) (xs := xs) h1)
  have B1 := Lib.hid ((Below.refl w.heap.size w).grown h2 (Nat.le_refl _) (by simp))
  clear h1 h2 hzs
  go_loopw [4] (fun i w2 => ∃ j : Nat, j ≤ n ∧ i = .int .i64 j ∧ Fill 276 7 EDatPiece zs xs w.heap.size n j w2 ∧ Below w.heap.size w w2) (fun i _ => n - (intOf i).toNat)
  case atStart => exact ⟨0, by omega, rfl, F1.out, B1.out⟩
  case round =>
    obtain ⟨j, hj, rfl, hfi, hb⟩ := hrel
    have Hf := Lib.hid hfi
    have Hb := Lib.hid hb
    clear hfi hb
    by_cases hlt : j < n
    · obtain ⟨ad, cs, hk, rfl, hcl, hca, hE⟩ := RdS.at_ (Hv.out.below Hb.out) hlt
      have HE := Lib.hid hE
      obtain ⟨v6, rfl, h6⟩ := hE
      have c0 := hca.c0
      have c1 := hca.ci 0 rfl
      have c2 := hca.ci 1 rfl
      have c3 := hca.ci 2 rfl
      have c4 := hca.ci 3 rfl
      have c5 := hca.ci 4 rfl
      have c6 := hca.ci 5 rfl
      clear hca hcl h6
      go_wp2_with fail
      refine (toDatPiece_n _ xs[j] _ HE.out (Hx.out _ (List.getElem_mem hk))).mono ?_
      rintro e w3 ⟨cs', f', rfl, hE', hn', hb3⟩
      clear c0 c1 c2 c3 c4 c5 c6
      obtain ⟨d0, e0⟩ := Hf.out.cell hb3 (p := j * 7) (by omega)
      have z0 := Hf.out.frozen hb3 (j * 7)
      obtain ⟨d1, e1⟩ := Hf.out.cell hb3 (p := j * 7 + 1) (by omega)
      have z1 := Hf.out.frozen hb3 (j * 7 + 1)
      obtain ⟨d2, e2⟩ := Hf.out.cell hb3 (p := j * 7 + 2) (by omega)
      have z2 := Hf.out.frozen hb3 (j * 7 + 2)
      obtain ⟨d3, e3⟩ := Hf.out.cell hb3 (p := j * 7 + 3) (by omega)
      have z3 := Hf.out.frozen hb3 (j * 7 + 3)
      obtain ⟨d4, e4⟩ := Hf.out.cell hb3 (p := j * 7 + 4) (by omega)
      have z4 := Hf.out.frozen hb3 (j * 7 + 4)
      obtain ⟨d5, e5⟩ := Hf.out.cell hb3 (p := j * 7 + 5) (by omega)
      have z5 := Hf.out.frozen hb3 (j * 7 + 5)
      obtain ⟨d6, e6⟩ := Hf.out.cell hb3 (p := j * 7 + 6) (by omega)
      have z6 := Hf.out.frozen hb3 (j * 7 + 6)
      obtain ⟨s1, s2, s3⟩ := Hf.out.step EDatPiece.framed EDatPiece.inside Z.out hlt hb3 (List.getElem?_eq_getElem hk) (cs := cs') (by obtain ⟨_, _, rfl, _⟩ := id hE'; rfl) hE' hn'.1 (fun b hb' => (hn'.2 b hb').1)
      have S1 := Lib.hid s1
      have S2 := Lib.hid ((Hb.out.trans (hb3.mono Hb.out.size)).trans (s2.below (by simp) (Nat.le_trans Hb.out.size hb3.size)))
      clear s1 s2 s3
      obtain ⟨u6, g6, rfl, o6, rfl⟩ := hE'
      obtain ⟨A6, c6, rfl⟩ := o6.rd.slice
      clear hb3 hn' o6
      go_wp2
      exact ⟨⟨j + 1, by omega, by go_num, S1.out, S2.out⟩, by simp [intOf]; omega⟩
    · have : j = n := by omega
      subst this
      go_wp2
      go_ret
      obtain ⟨bs, h1, h2, h3⟩ := Hf.out.done Hl.out Z.out
      exact ⟨_, bs, rfl, h1, ⟨h2, fun b hb => ⟨h3 b hb, h1.inside EDatPiece.inside b hb⟩⟩, Hb.out⟩

set_option maxRecDepth 100000 in
set_option maxHeartbeats 1000000 in
theorem eqDatPieceS_s (u v : Value) (xs : List DDatPiece) (w : World) (hu : RdDatPieceS w u xs) (hv : RdDatPieceS w v xs) (hz : zL zDatPiece xs ≤ 1048576) :
    Calls Try.prog 201 #[u, v] w fun e w' => e = .returned (.bool true) ∧ Below w.heap.size w w' := by
  have hn : xs.length ≤ 1048576 := by unfold zL at hz; omega
  have hx : ∀ x ∈ xs, zDatPiece x ≤ 1048576 := fun x h => by have := szL_mem (z := zDatPiece) h; unfold zL at hz; omega
  clear hz
  obtain ⟨A, c, rfl⟩ := RdS.slice hv
  obtain ⟨A', c', rfl⟩ := RdS.slice hu
  have hcv := RdS.cap hv
  have hcu := RdS.cap hu
  have Hv := Lib.hid hv
  have Hu := Lib.hid hu
  have Hx := Lib.hid hx
  clear hv hu hx
  generalize hl : xs.length = n at *
  have Hl := Lib.hid hl
  clear hl
  go_enter Try.func201, Try.ntmps201
  go_wp2
  go_loopw [5] (fun i w2 => ∃ j : Nat, j ≤ n ∧ i = .int .i64 j ∧ Below w.heap.size w w2) (fun i _ => n - (intOf i).toNat)
  case atStart => exact ⟨0, by omega, rfl, Below.refl _ _⟩
  case round =>
    obtain ⟨j, hj, rfl, hb⟩ := hrel
    have Hb := Lib.hid hb
    clear hb
    by_cases hlt : j < n
    · obtain ⟨ad, cs, hk, rfl, hcl, hca, hE⟩ := RdS.at_ (Hv.out.below Hb.out) hlt
      obtain ⟨ad', cs', hk', rfl, hcl', hca', hE'⟩ := RdS.at_ (Hu.out.below Hb.out) hlt
      have HE := Lib.hid hE
      have HE' := Lib.hid hE'
      obtain ⟨v6, rfl, h6⟩ := hE
      obtain ⟨u6, rfl, k6⟩ := hE'
      have c0 := hca.c0
      have d0 := hca'.c0
      have c1 := hca.ci 0 rfl
      have d1 := hca'.ci 0 rfl
      have c2 := hca.ci 1 rfl
      have d2 := hca'.ci 1 rfl
      have c3 := hca.ci 2 rfl
      have d3 := hca'.ci 2 rfl
      have c4 := hca.ci 3 rfl
      have d4 := hca'.ci 3 rfl
      have c5 := hca.ci 4 rfl
      have d5 := hca'.ci 4 rfl
      have c6 := hca.ci 5 rfl
      have d6 := hca'.ci 5 rfl
      clear hca hcl hca' hcl' h6 k6
      go_wp2
      go_still_tail 8, (by kernel_rfl)
      go_wp2_with fail
      refine (eqDatPiece_s _ _ xs[j] _ (by exact HE'.out) (by exact HE.out) (Hx.out _ (List.getElem_mem hk))).mono ?_
      rintro e w3 ⟨rfl, hb3⟩
      have Hb3 := Lib.hid (Hb.out.trans ((below_of_drew hb3).mono Hb.out.size))
      clear hb3 c0 d0 c1 d1 c2 d2 c3 d3 c4 d4 c5 d5 c6 d6
      go_wp2
      exact ⟨⟨j + 1, by omega, by go_num, Hb3.out⟩, by simp [intOf]; omega⟩
    · go_wp2
      go_ret
      exact ⟨rfl, Hb.out⟩

theorem cells_DatPiece : Try.prog.cellsOf 283 = 7 := by kernel_rfl
set_option maxRecDepth 100000 in
theorem read_DatPiece {H : Type} {enc : TypeId × Value → H} {w : World} {base : Nat} {spare : Nat → Bool} {held : Bool} (n : Nat) (cs : List Value) (y : DataW H × List MemPlace) (hcs : cs.length = 7)
    (h : DataW.trod enc Try.prog w base spare held n 283 cs = some y) : ∃ x : DDatPiece, FDatPiece w cs x := by
  obtain ⟨ys, n', _, _, _, hxl, hg⟩ := DataW.trod_struct Try.underlying283 h
  match cs, hcs with
  | [c0, c1, c2, c3, c4, c5, c6], _ =>
    match ys, hxl with
    | [y0, y1, y2, y3, y4, y5, y6], _ =>
      have h0 : DataW.trod enc Try.prog w base spare held n' 3 (([c0, c1, c2, c3, c4, c5, c6].drop 0).take (Try.prog.cellsOf 3)) = some y0 := hg 0 _ rfl
      have h1 : DataW.trod enc Try.prog w base spare held n' 3 (([c0, c1, c2, c3, c4, c5, c6].drop 1).take (Try.prog.cellsOf 3)) = some y1 := hg 1 _ rfl
      have h2 : DataW.trod enc Try.prog w base spare held n' 3 (([c0, c1, c2, c3, c4, c5, c6].drop 2).take (Try.prog.cellsOf 3)) = some y2 := hg 2 _ rfl
      have h3 : DataW.trod enc Try.prog w base spare held n' 4 (([c0, c1, c2, c3, c4, c5, c6].drop 3).take (Try.prog.cellsOf 4)) = some y3 := hg 3 _ rfl
      have h4 : DataW.trod enc Try.prog w base spare held n' 4 (([c0, c1, c2, c3, c4, c5, c6].drop 4).take (Try.prog.cellsOf 4)) = some y4 := hg 4 _ rfl
      have h5 : DataW.trod enc Try.prog w base spare held n' 4 (([c0, c1, c2, c3, c4, c5, c6].drop 5).take (Try.prog.cellsOf 4)) = some y5 := hg 5 _ rfl
      have h6 : DataW.trod enc Try.prog w base spare held n' 22 (([c0, c1, c2, c3, c4, c5, c6].drop 6).take (Try.prog.cellsOf 22)) = some y6 := hg 6 _ rfl
      simp only [cellsInt, cellsBool, cellsBytes, List.drop_zero, List.drop_succ_cons, List.take_succ_cons, List.take_zero] at h0 h1 h2 h3 h4 h5 h6
      obtain ⟨a0, rfl⟩ := intCell h0
      obtain ⟨a1, rfl⟩ := intCell h1
      obtain ⟨a2, rfl⟩ := intCell h2
      obtain ⟨a3, rfl⟩ := boolCell h3
      obtain ⟨a4, rfl⟩ := boolCell h4
      obtain ⟨a5, rfl⟩ := boolCell h5
      obtain ⟨a6, g6⟩ := open_rdb h6
      exact ⟨⟨a0, a1, a2, a3, a4, a5, a6⟩, _, rfl, g6⟩
theorem cells_DatPieceS : Try.prog.cellsOf 113 = 1 := by kernel_rfl
end Go.Proofs.Ythdjjgbjemaabaa
