/-
  Words and the laws' helpers of DatUnit and of lists of it. (Written by wip/tools/gentype.py.)
-/
import Derived.Test.YthdjjgbjemaabaaKin
namespace Go.Proofs.Ythdjjgbjemaabaa
open Go.ChangeShapes Go.WideShapes Go.ChangeAt Go.RowKit
set_option linter.unusedVariables false
set_option linter.unusedSimpArgs false

structure DDatUnit where
  xMark : Int
  xStream : Int
  xLoose : Bool
  xBody : List UInt8
def FDatUnit (w : World) (cs : List Value) (x : DDatUnit) : Prop := ∃ v3 : Value, cs = [.int .i64 x.xMark, .int .i64 x.xStream, .bool x.xLoose, v3] ∧ RdB w v3 x.xBody
def EDatUnit (w : World) (f : List Nat) (cs : List Value) (x : DDatUnit) : Prop := ∃ (v3 : Value) (f3 : List Nat), cs = [.int .i64 x.xMark, .int .i64 x.xStream, .bool x.xLoose, v3] ∧ OwBy w f3 v3 x.xBody ∧ f = f3
theorem FDatUnit.below {w w' : World} {cs : List Value} {x : DDatUnit} (h : FDatUnit w cs x) (hb : Below w.heap.size w w') : FDatUnit w' cs x := by
  obtain ⟨v3, rfl, h3⟩ := h
  exact ⟨v3, rfl, h3.below hb⟩
theorem EDatUnit.framed : Framed EDatUnit := by
  rintro w w' f cs x ⟨v3, f3, rfl, h3, rfl⟩ hb
  exact ⟨_, _, rfl, h3.keep (fun b h => hb b (by simp [h])), rfl⟩
theorem EDatUnit.inside : Inside EDatUnit := by
  rintro w f cs x ⟨v3, f3, rfl, h3, rfl⟩ b hb
  exact h3.inside b hb
theorem EDatUnit.rd {w : World} {f : List Nat} {cs : List Value} {x : DDatUnit} (h : EDatUnit w f cs x) : FDatUnit w cs x := by
  obtain ⟨v3, f3, rfl, h3, rfl⟩ := h
  exact ⟨v3, rfl, h3.rd⟩
abbrev RdDatUnitS (w : World) (v : Value) (xs : List DDatUnit) : Prop := RdS 4 FDatUnit w v xs
def OwDatUnitS (w : World) (f : List Nat) (v : Value) (xs : List DDatUnit) : Prop := OwL 106 4 EDatUnit w f v xs
theorem RdDatUnitS.below {w w' : World} {v : Value} {xs : List DDatUnit} (h : RdDatUnitS w v xs) (hb : Below w.heap.size w w') : RdDatUnitS w' v xs := RdS.below (fun _ _ h => h.below hb) h hb
theorem RdDatUnitS.slice {w : World} {v : Value} {xs : List DDatUnit} (h : RdDatUnitS w v xs) : ∃ A c, v = .slice A xs.length c := RdS.slice h
theorem OwDatUnitS.keep {w w' : World} {f : List Nat} {v : Value} {xs : List DDatUnit} (h : OwDatUnitS w f v xs) (hb : ∀ b ∈ f, w'.heap[b]? = w.heap[b]?) : OwDatUnitS w' f v xs := OwL.keep EDatUnit.framed h hb
theorem OwDatUnitS.inside {w : World} {f : List Nat} {v : Value} {xs : List DDatUnit} (h : OwDatUnitS w f v xs) : ∀ b ∈ f, b < w.heap.size := OwL.inside EDatUnit.inside h
theorem OwDatUnitS.rd {w : World} {f : List Nat} {v : Value} {xs : List DDatUnit} (h : OwDatUnitS w f v xs) : RdDatUnitS w v xs := OwL.rd (fun _ _ _ h => h.rd) h
def zDatUnit (x : DDatUnit) : Nat := x.xBody.length

set_option maxHeartbeats 1000000 in
theorem szDatUnit_z (cs : List Value) (x : DDatUnit) (left : Int) (w : World) (h : FDatUnit w cs x) (hl : 0 ≤ left ∧ left ≤ 1048576) :
    Calls Try.prog 67 #[.agg cs.toArray, .int .i64 left] w fun e w' => e = .returned (.int .i64 (szR left (zDatUnit x))) ∧ Below w.heap.size w w' := by
  obtain ⟨v3, rfl, h3⟩ := h
  have Hz := Lib.hid (show zDatUnit x = x.xBody.length from rfl)
  generalize zDatUnit x = zx at Hz ⊢
  have K := Lib.hid (Blk.new (w := w) (b := w.heap.size) #[.int .i64 x.xMark, .int .i64 x.xStream, .bool x.xLoose, v3] 100 rfl)
  have HB := Lib.hid ((Below.refl w.heap.size w).alloc (Nat.le_refl _) (.cells #[.int .i64 x.xMark, .int .i64 x.xStream, .bool x.xLoose, v3] 100))
  have H3 := Lib.hid h3
  clear h3
  go_enter Try.func67, Try.ntmps67
  go_wp2_with fail
  refine (szByteS_z _ x.xBody _ _ (H3.out.below HB.out) ⟨by omega, by omega⟩).mono ?_
  rintro e w1 ⟨rfl, b1⟩
  have K := Lib.hid (K.out.keep b1)
  have HB := Lib.hid (HB.out.trans (b1.mono HB.out.size))
  clear b1
  have hr0 := szR_cases left (x.xBody.length) (by omega)
  generalize szR left (x.xBody.length) = r0 at *
  rcases hr0 with ⟨rfl, hr0⟩ | ⟨hr0, hs0, ht0⟩
  · have Q := Lib.hid hr0
    go_wp2
    go_ret
    refine ⟨retI ?_, HB.out⟩
    have hz := Hz.out
    have hq := Q.out
    rw [szR_no (by omega)]
  have hz := Hz.out
  have Hf := Lib.hid (show szR left zx = r0 by rw [szR_yes (by omega)]; omega)
  clear hz
  go_wp2
  go_ret
  exact ⟨retI Hf.out.symm, HB.out⟩

set_option maxRecDepth 100000 in
set_option maxHeartbeats 2000000 in
theorem toDatUnit_n (cs : List Value) (x : DDatUnit) (w : World) (h : FDatUnit w cs x) (hz : zDatUnit x ≤ 1048576) :
    Calls Try.prog 70 #[.agg cs.toArray] w fun e w' => ∃ cs' f, e = .returned (.agg cs'.toArray) ∧ EDatUnit w' f cs' x ∧ Nw w.heap.size w'.heap.size f ∧ Below w.heap.size w w' := by
  obtain ⟨v3, rfl, h3⟩ := h
  simp only [zDatUnit] at hz
  have H3 := Lib.hid h3
  clear h3
  have Hz := Lib.hid hz
  clear hz
  have KA := Lib.hid (((Blk.new (w := w) (b := w.heap.size) #[.int .i64 x.xMark, .int .i64 x.xStream, .bool x.xLoose, v3] 100 rfl).alloc (.cells #[.int .i64 0, .int .i64 0, .bool false, .slice none 0 0] 106)).alloc (.cells #[.int .i64 x.xMark, .int .i64 x.xStream, .bool x.xLoose, .slice none 0 0] 106))
  have KR := Lib.hid ((Blk.new (w := w.alloc (.cells #[.int .i64 x.xMark, .int .i64 x.xStream, .bool x.xLoose, v3] 100)) (b := w.heap.size + 1) #[.int .i64 0, .int .i64 0, .bool false, .slice none 0 0] 106 (by simp)).alloc (.cells #[.int .i64 x.xMark, .int .i64 x.xStream, .bool x.xLoose, .slice none 0 0] 106))
  have KO := Lib.hid (Blk.new (w := (w.alloc (.cells #[.int .i64 x.xMark, .int .i64 x.xStream, .bool x.xLoose, v3] 100)).alloc (.cells #[.int .i64 0, .int .i64 0, .bool false, .slice none 0 0] 106)) (b := w.heap.size + 1 + 1) #[.int .i64 x.xMark, .int .i64 x.xStream, .bool x.xLoose, .slice none 0 0] 106 (by simp))
  have HB := Lib.hid (below3 w (.cells #[.int .i64 x.xMark, .int .i64 x.xStream, .bool x.xLoose, v3] 100) (.cells #[.int .i64 0, .int .i64 0, .bool false, .slice none 0 0] 106) (.cells #[.int .i64 x.xMark, .int .i64 x.xStream, .bool x.xLoose, .slice none 0 0] 106))
  have HS : w.heap.size + 3 ≤ (((w.alloc (.cells #[.int .i64 x.xMark, .int .i64 x.xStream, .bool x.xLoose, v3] 100)).alloc (.cells #[.int .i64 0, .int .i64 0, .bool false, .slice none 0 0] 106)).alloc (.cells #[.int .i64 x.xMark, .int .i64 x.xStream, .bool x.xLoose, .slice none 0 0] 106)).heap.size := by simp
  go_enter Try.func70, Try.ntmps70
  go_wp2_with fail
  refine (toByteS_n _ x.xBody _ (H3.out.below (by exact HB.out)) (by have := Hz.out; omega)).mono ?_
  rintro e w1 ⟨u3, g3, rfl, o3, n3, b1⟩
  obtain ⟨A3, c3, rfl⟩ := o3.rd.slice
  have KA := Lib.hid (KA.out.keep b1)
  have KR := Lib.hid (KR.out.keep b1)
  have KO := Lib.hid (KO.out.keep b1)
  have HS : w.heap.size + 3 ≤ w1.heap.size := Nat.le_trans HS b1.size
  have S1 := Lib.hid HS
  have FR0 := Lib.hid (FrL.refl [w.heap.size + 1, w.heap.size + 1 + 1] w1)
  have HB := Lib.hid (HB.out.trans (b1.mono HB.out.size))
  have O3 := Lib.hid o3
  have N0 := Lib.hid (n3.mono (lo' := w.heap.size + 3) (by simp) (Nat.le_refl _))
  clear o3 n3 b1
  have ac0 := KA.out.at (i := 0) rfl
  have oc0 := KO.out.at (i := 0) rfl
  have rc0 := KR.out.at (i := 0) rfl
  have rf0 := KR.out.frozen 0
  have ac1 := KA.out.at (i := 1) rfl
  have oc1 := KO.out.at (i := 1) rfl
  have rc1 := KR.out.at (i := 1) rfl
  have rf1 := KR.out.frozen 1
  have ac2 := KA.out.at (i := 2) rfl
  have oc2 := KO.out.at (i := 2) rfl
  have rc2 := KR.out.at (i := 2) rfl
  have rf2 := KR.out.frozen 2
  have ac3 := KA.out.at (i := 3) rfl
  have oc3 := KO.out.at (i := 3) rfl
  have of3 := KO.out.frozen 3
  have rc3 := KR.out.at (i := 3) rfl
  have rf3 := KR.out.frozen 3
  have KA := Lib.hid (KA.out.far (b' := w.heap.size + 1 + 1) (o := 3) (v := .slice A3 x.xBody.length c3) (by omega))
  have KR := Lib.hid (KR.out.far (b' := w.heap.size + 1 + 1) (o := 3) (v := .slice A3 x.xBody.length c3) (by omega))
  have KO := Lib.hid (KO.out.set (i := 3) (v := .slice A3 x.xBody.length c3) (by simp))
  have FR0 := Lib.hid (FR0.out.set (g := w.heap.size + 1 + 1) (o := 3) (.slice A3 x.xBody.length c3) (by simp))
  have HB := Lib.hid (HB.out.setCell (p := ⟨w.heap.size + 1 + 1, 3, none⟩) (by simp <;> omega) (.slice A3 x.xBody.length c3))
  have FR0 := Lib.hid (FR0.out.set (g := w.heap.size + 1) (o := 0) (.int .i64 x.xMark) (by simp))
  have HB := Lib.hid (HB.out.setCell (p := ⟨w.heap.size + 1, 0, none⟩) (by simp <;> omega) (.int .i64 x.xMark))
  have FR0 := Lib.hid (FR0.out.set (g := w.heap.size + 1) (o := 1) (.int .i64 x.xStream) (by simp))
  have HB := Lib.hid (HB.out.setCell (p := ⟨w.heap.size + 1, 1, none⟩) (by simp <;> omega) (.int .i64 x.xStream))
  have FR0 := Lib.hid (FR0.out.set (g := w.heap.size + 1) (o := 2) (.bool x.xLoose) (by simp))
  have HB := Lib.hid (HB.out.setCell (p := ⟨w.heap.size + 1, 2, none⟩) (by simp <;> omega) (.bool x.xLoose))
  have FR0 := Lib.hid (FR0.out.set (g := w.heap.size + 1) (o := 3) (.slice A3 x.xBody.length c3) (by simp))
  have HB := Lib.hid (HB.out.setCell (p := ⟨w.heap.size + 1, 3, none⟩) (by simp <;> omega) (.slice A3 x.xBody.length c3))
  clear KR
  go_wp2
  refine bodyPost_ret (v := .agg #[.int .i64 x.xMark, .int .i64 x.xStream, .bool x.xLoose, .slice A3 x.xBody.length c3]) (by simp [results, Try.results70, go_sem, rc0, rc1, rc2, rc3]) rfl ⟨[.int .i64 x.xMark, .int .i64 x.xStream, .bool x.xLoose, .slice A3 x.xBody.length c3], _, rfl, ⟨_, _, rfl, O3.out.keep ?_, rfl⟩, ?_, ?_⟩
  · exact (fun b hb => FR0.out.block b (O3.out.inside b hb) (by have h1 := (N0.out.2 b hb).1; simp only [List.mem_cons, List.not_mem_nil, or_false, not_or]; omega))
  · have h := N0.out
    exact h.mono (by omega) (by simp only [size_set]; omega)
  · exact HB.out

set_option maxHeartbeats 2000000 in
theorem eqDatUnit_s (cs ds : List Value) (x : DDatUnit) (w : World) (h : FDatUnit w cs x) (k : FDatUnit w ds x) (hz : zDatUnit x ≤ 1048576) :
    Calls Try.prog 73 #[.agg cs.toArray, .agg ds.toArray] w fun e w' => e = .returned (.bool true) ∧ Below w.heap.size w w' := by
  obtain ⟨v3, rfl, h3⟩ := h
  obtain ⟨u3, rfl, k3⟩ := k
  simp only [zDatUnit] at hz
  have Hz := Lib.hid hz
  clear hz
  have KA := Lib.hid ((Blk.new (w := w) (b := w.heap.size) #[.int .i64 x.xMark, .int .i64 x.xStream, .bool x.xLoose, v3] 106 rfl).alloc (.cells #[.int .i64 x.xMark, .int .i64 x.xStream, .bool x.xLoose, u3] 106))
  have KB := Lib.hid (Blk.new (w := w.alloc (.cells #[.int .i64 x.xMark, .int .i64 x.xStream, .bool x.xLoose, v3] 106)) (b := w.heap.size + 1) #[.int .i64 x.xMark, .int .i64 x.xStream, .bool x.xLoose, u3] 106 (by simp))
  have HB := Lib.hid (below2 w (.cells #[.int .i64 x.xMark, .int .i64 x.xStream, .bool x.xLoose, v3] 106) (.cells #[.int .i64 x.xMark, .int .i64 x.xStream, .bool x.xLoose, u3] 106))
  have H3 := Lib.hid h3
  have K3 := Lib.hid k3
  clear h3 k3
  go_enter Try.func73, Try.ntmps73
  go_wp2_with fail
  refine (eqByteS_s _ _ x.xBody _ (H3.out.below (by exact HB.out)) (K3.out.below (by exact HB.out)) (by have := Hz.out; omega)).mono ?_
  rintro e w1 ⟨rfl, b1⟩
  have KA := Lib.hid (KA.out.keep b1)
  have KB := Lib.hid (KB.out.keep b1)
  have HB := Lib.hid (HB.out.trans (b1.mono HB.out.size))
  clear b1
  go_wp2
  go_ret
  exact ⟨rfl, HB.out⟩

set_option maxHeartbeats 1000000 in
theorem szDatUnitS_z (v : Value) (xs : List DDatUnit) (left : Int) (w : World) (hv : RdDatUnitS w v xs) (hl : 0 ≤ left ∧ left ≤ 1048576) :
    Calls Try.prog 179 #[v, .int .i64 left] w fun e w' => e = .returned (.int .i64 (szR left (zL zDatUnit xs))) ∧ Below w.heap.size w w' := by
  obtain ⟨A, c, rfl⟩ := RdS.slice hv
  have hc := RdS.cap hv
  have hzl : zL zDatUnit xs = xs.length + szL zDatUnit xs := rfl
  generalize zL zDatUnit xs = zx at *
  generalize hl' : xs.length = n at *
  have Hl := Lib.hid hl'
  have Hv := Lib.hid hv
  have Hz := Lib.hid hzl
  clear hl' hv hzl
  by_cases hn : (n : Int) ≤ left
  · go_enter Try.func179, Try.ntmps179
    go_wp2
    go_loopw [1, 5] (fun q i w1 => ∃ (j : Nat) (l : Int), j ≤ n ∧ i = .int .i64 j ∧ q = .int .i64 l ∧ 0 ≤ l ∧ l ≤ 1048576 ∧ l + szL zDatUnit (xs.take j) + n = left ∧ Below w.heap.size w w1) (fun _ i _ => n - (intOf i).toNat)
    case atStart => exact ⟨0, left - n, by omega, rfl, rfl, by omega, by omega, by simp [szL], Below.refl _ _⟩
    case round =>
      obtain ⟨j, l, hj, rfl, rfl, hl0, hl1, hb, hw⟩ := hrel
      have Hb := Lib.hid hb
      have Hw := Lib.hid hw
      clear hb hw
      by_cases hlt : j < n
      · obtain ⟨ad, cs, hk, rfl, hcl, hca, hE⟩ := RdS.at_ (Hv.out.below Hw.out) hlt
        have HE := Lib.hid hE
        obtain ⟨v3, rfl, h3⟩ := hE
        have c0 := hca.c0
        have c1 := hca.ci 0 rfl
        have c2 := hca.ci 1 rfl
        have c3 := hca.ci 2 rfl
        clear hca hcl h3
        have hr := szR_cases l (zDatUnit xs[j]) (by omega)
        go_wp2_with fail
        refine (szDatUnit_z _ xs[j] _ _ HE.out ⟨hl0, hl1⟩).mono ?_
        rintro e w2 ⟨rfl, hb2⟩
        have Hb2 := Lib.hid (Hw.out.trans (hb2.mono Hw.out.size))
        clear hb2 c0 c1 c2 c3
        have Hx := Lib.hid (szL_take_succ (sz := zDatUnit) hk)
        have Hy := Lib.hid (szL_take_le (sz := zDatUnit) (xs := xs) (j + 1))
        generalize szR l (zDatUnit xs[j]) = r at *
        rcases hr with ⟨rfl, hr⟩ | ⟨h1, h2, h3⟩
        · have Hr := Lib.hid hr
          clear hr
          go_wp2
          go_ret
          refine ⟨retI ?_, Hb2.out⟩
          have h4 := Hb.out
          have h5 := Hx.out
          have h6 := Hy.out
          have h7 := Hz.out
          have h8 := Hr.out
          rw [szR_no (by omega)]
        · have H3 := Lib.hid h3
          clear h3
          go_wp2
          refine ⟨⟨j + 1, r, by omega, by go_num, rfl, h1, h2, ?_, Hb2.out⟩, by simp [intOf]; omega⟩
          have h4 := Hb.out
          have h5 := H3.out
          rw [Hx.out]
          omega
      · have : j = n := by omega
        subst this
        have hf : szR left zx = l := by
          have h4 := Hb.out
          have h7 := Hz.out
          rw [List.take_of_length_le (by rw [Hl.out]; omega)] at h4
          rw [szR_yes (by omega)]; omega
        have Hf := Lib.hid hf
        clear hf
        go_wp2
        go_ret
        exact ⟨retI Hf.out.symm, Hw.out⟩
  · have hf : szR left zx = -1 := by have h7 := Hz.out; rw [szR_no (by omega)]
    have Hf := Lib.hid hf
    clear hf
    go_enter Try.func179, Try.ntmps179
    go_wp2
    go_ret
    exact ⟨retI Hf.out.symm, Below.refl _ _⟩
theorem info_DatUnit : (Try.prog.info? 106).map (fun i => (i.zero, i.size)) = some (some (.agg #[.int .i64 0, .int .i64 0, .bool false, .slice none 0 0]), 4) := by kernel_rfl
theorem infob_DatUnit : (match Try.prog.info? 106 with | some i => decide (i.bytes ≤ 4096) | none => false) = true := by kernel_rfl

set_option maxRecDepth 100000 in
set_option maxHeartbeats 1000000 in
theorem toDatUnitS_n (v : Value) (xs : List DDatUnit) (w : World) (hv : RdDatUnitS w v xs) (hz : zL zDatUnit xs ≤ 1048576) :
    Calls Try.prog 185 #[v] w fun e w' => ∃ v' f, e = .returned v' ∧ OwDatUnitS w' f v' xs ∧ Nw w.heap.size w'.heap.size f ∧ Below w.heap.size w w' := by
  obtain ⟨i0, hi0, hz0, hz1, hz2⟩ := info_parts2 info_DatUnit infob_DatUnit
  have hn : xs.length ≤ 1048576 := by unfold zL at hz; omega
  have hx : ∀ x ∈ xs, zDatUnit x ≤ 1048576 := fun x h => by have := szL_mem (z := zDatUnit) h; unfold zL at hz; omega
  clear hz
  obtain ⟨A, c, rfl⟩ := RdS.slice hv
  generalize hl : xs.length = n at *
  have Hl := Lib.hid hl
  have Hv := Lib.hid hv
  have Hx := Lib.hid hx
  clear hl hv hx
  go_enter Try.func185, Try.ntmps185
  go_wp2_with (at_make; refine wpList_make_full _ rfl _ _ 82 rfl 0 106 i0 _ 4 Try.underlying82 hi0 hz0 hz1 _ _ _ _ n rfl rfl rfl rfl (make_room hz2 hn) (by unfold maxLen; omega) (Nat.zero_le _) ?_; intro w1 h1 h2)
  generalize hzs : (madeCells _ (n * 4)).toList = zs at h1
  have Z := Lib.hid (show zs.length = n * 4 from h1.1)
  have F1 := Lib.hid (Fill.start (E := EDatUnit) (xs := xs) h1)
  have B1 := Lib.hid ((Below.refl w.heap.size w).grown h2 (Nat.le_refl _) (by simp))
  clear h1 h2 hzs
  go_loopw [4] (fun i w2 => ∃ j : Nat, j ≤ n ∧ i = .int .i64 j ∧ Fill 106 4 EDatUnit zs xs w.heap.size n j w2 ∧ Below w.heap.size w w2) (fun i _ => n - (intOf i).toNat)
  case atStart => exact ⟨0, by omega, rfl, F1.out, B1.out⟩
  case round =>
    obtain ⟨j, hj, rfl, hfi, hb⟩ := hrel
    have Hf := Lib.hid hfi
    have Hb := Lib.hid hb
    clear hfi hb
    by_cases hlt : j < n
    · obtain ⟨ad, cs, hk, rfl, hcl, hca, hE⟩ := RdS.at_ (Hv.out.below Hb.out) hlt
      have HE := Lib.hid hE
      obtain ⟨v3, rfl, h3⟩ := hE
      have c0 := hca.c0
      have c1 := hca.ci 0 rfl
      have c2 := hca.ci 1 rfl
      have c3 := hca.ci 2 rfl
      clear hca hcl h3
      go_wp2_with fail
      refine (toDatUnit_n _ xs[j] _ HE.out (Hx.out _ (List.getElem_mem hk))).mono ?_
      rintro e w3 ⟨cs', f', rfl, hE', hn', hb3⟩
      clear c0 c1 c2 c3
      obtain ⟨d0, e0⟩ := Hf.out.cell hb3 (p := j * 4) (by omega)
      have z0 := Hf.out.frozen hb3 (j * 4)
      obtain ⟨d1, e1⟩ := Hf.out.cell hb3 (p := j * 4 + 1) (by omega)
      have z1 := Hf.out.frozen hb3 (j * 4 + 1)
      obtain ⟨d2, e2⟩ := Hf.out.cell hb3 (p := j * 4 + 2) (by omega)
      have z2 := Hf.out.frozen hb3 (j * 4 + 2)
      obtain ⟨d3, e3⟩ := Hf.out.cell hb3 (p := j * 4 + 3) (by omega)
      have z3 := Hf.out.frozen hb3 (j * 4 + 3)
      obtain ⟨s1, s2, s3⟩ := Hf.out.step EDatUnit.framed EDatUnit.inside Z.out hlt hb3 (List.getElem?_eq_getElem hk) (cs := cs') (by obtain ⟨_, _, rfl, _⟩ := id hE'; rfl) hE' hn'.1 (fun b hb' => (hn'.2 b hb').1)
      have S1 := Lib.hid s1
      have S2 := Lib.hid ((Hb.out.trans (hb3.mono Hb.out.size)).trans (s2.below (by simp) (Nat.le_trans Hb.out.size hb3.size)))
      clear s1 s2 s3
      obtain ⟨u3, g3, rfl, o3, rfl⟩ := hE'
      obtain ⟨A3, c3, rfl⟩ := o3.rd.slice
      clear hb3 hn' o3
      go_wp2
      exact ⟨⟨j + 1, by omega, by go_num, S1.out, S2.out⟩, by simp [intOf]; omega⟩
    · have : j = n := by omega
      subst this
      go_wp2
      go_ret
      obtain ⟨bs, h1, h2, h3⟩ := Hf.out.done Hl.out Z.out
      exact ⟨_, bs, rfl, h1, ⟨h2, fun b hb => ⟨h3 b hb, h1.inside EDatUnit.inside b hb⟩⟩, Hb.out⟩

set_option maxRecDepth 100000 in
set_option maxHeartbeats 1000000 in
theorem eqDatUnitS_s (u v : Value) (xs : List DDatUnit) (w : World) (hu : RdDatUnitS w u xs) (hv : RdDatUnitS w v xs) (hz : zL zDatUnit xs ≤ 1048576) :
    Calls Try.prog 172 #[u, v] w fun e w' => e = .returned (.bool true) ∧ Below w.heap.size w w' := by
  have hn : xs.length ≤ 1048576 := by unfold zL at hz; omega
  have hx : ∀ x ∈ xs, zDatUnit x ≤ 1048576 := fun x h => by have := szL_mem (z := zDatUnit) h; unfold zL at hz; omega
  clear hz
  obtain ⟨A, c, rfl⟩ := RdS.slice hv
  obtain ⟨A', c', rfl⟩ := RdS.slice hu
  have hcv := RdS.cap hv
  have hcu := RdS.cap hu
  have Hv := Lib.hid hv
  have Hu := Lib.hid hu
  have Hx := Lib.hid hx
  clear hv hu hx
  generalize hl : xs.length = n at *
  have Hl := Lib.hid hl
  clear hl
  go_enter Try.func172, Try.ntmps172
  go_wp2
  go_loopw [5] (fun i w2 => ∃ j : Nat, j ≤ n ∧ i = .int .i64 j ∧ Below w.heap.size w w2) (fun i _ => n - (intOf i).toNat)
  case atStart => exact ⟨0, by omega, rfl, Below.refl _ _⟩
  case round =>
    obtain ⟨j, hj, rfl, hb⟩ := hrel
    have Hb := Lib.hid hb
    clear hb
    by_cases hlt : j < n
    · obtain ⟨ad, cs, hk, rfl, hcl, hca, hE⟩ := RdS.at_ (Hv.out.below Hb.out) hlt
      obtain ⟨ad', cs', hk', rfl, hcl', hca', hE'⟩ := RdS.at_ (Hu.out.below Hb.out) hlt
      have HE := Lib.hid hE
      have HE' := Lib.hid hE'
      obtain ⟨v3, rfl, h3⟩ := hE
      obtain ⟨u3, rfl, k3⟩ := hE'
      have c0 := hca.c0
      have d0 := hca'.c0
      have c1 := hca.ci 0 rfl
      have d1 := hca'.ci 0 rfl
      have c2 := hca.ci 1 rfl
      have d2 := hca'.ci 1 rfl
      have c3 := hca.ci 2 rfl
      have d3 := hca'.ci 2 rfl
      clear hca hcl hca' hcl' h3 k3
      go_wp2
      go_still_tail 8, (by kernel_rfl)
      go_wp2_with fail
      refine (eqDatUnit_s _ _ xs[j] _ (by exact HE'.out) (by exact HE.out) (Hx.out _ (List.getElem_mem hk))).mono ?_
      rintro e w3 ⟨rfl, hb3⟩
      have Hb3 := Lib.hid (Hb.out.trans ((below_of_drew hb3).mono Hb.out.size))
      clear hb3 c0 d0 c1 d1 c2 d2 c3 d3
      go_wp2
      exact ⟨⟨j + 1, by omega, by go_num, Hb3.out⟩, by simp [intOf]; omega⟩
    · go_wp2
      go_ret
      exact ⟨rfl, Hb.out⟩

theorem cells_DatUnit : Try.prog.cellsOf 100 = 4 := by kernel_rfl
set_option maxRecDepth 100000 in
theorem read_DatUnit {H : Type} {enc : TypeId × Value → H} {w : World} {base : Nat} {spare : Nat → Bool} {held : Bool} (n : Nat) (cs : List Value) (y : DataW H × List MemPlace) (hcs : cs.length = 4)
    (h : DataW.trod enc Try.prog w base spare held n 100 cs = some y) : ∃ x : DDatUnit, FDatUnit w cs x := by
  obtain ⟨ys, n', _, _, _, hxl, hg⟩ := DataW.trod_struct Try.underlying100 h
  match cs, hcs with
  | [c0, c1, c2, c3], _ =>
    match ys, hxl with
    | [y0, y1, y2, y3], _ =>
      have h0 : DataW.trod enc Try.prog w base spare held n' 3 (([c0, c1, c2, c3].drop 0).take (Try.prog.cellsOf 3)) = some y0 := hg 0 _ rfl
      have h1 : DataW.trod enc Try.prog w base spare held n' 3 (([c0, c1, c2, c3].drop 1).take (Try.prog.cellsOf 3)) = some y1 := hg 1 _ rfl
      have h2 : DataW.trod enc Try.prog w base spare held n' 4 (([c0, c1, c2, c3].drop 2).take (Try.prog.cellsOf 4)) = some y2 := hg 2 _ rfl
      have h3 : DataW.trod enc Try.prog w base spare held n' 22 (([c0, c1, c2, c3].drop 3).take (Try.prog.cellsOf 22)) = some y3 := hg 3 _ rfl
      simp only [cellsInt, cellsBool, cellsBytes, List.drop_zero, List.drop_succ_cons, List.take_succ_cons, List.take_zero] at h0 h1 h2 h3
      obtain ⟨a0, rfl⟩ := intCell h0
      obtain ⟨a1, rfl⟩ := intCell h1
      obtain ⟨a2, rfl⟩ := boolCell h2
      obtain ⟨a3, g3⟩ := open_rdb h3
      exact ⟨⟨a0, a1, a2, a3⟩, _, rfl, g3⟩
theorem cells_DatUnitS : Try.prog.cellsOf 96 = 1 := by kernel_rfl
end Go.Proofs.Ythdjjgbjemaabaa
