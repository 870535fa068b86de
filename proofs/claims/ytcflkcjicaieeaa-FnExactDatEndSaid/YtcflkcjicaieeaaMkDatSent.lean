/-
  Marks of DatSent, and of lists of it. (Written by wip/tools/genmark.py.)
-/
import Derived.Test.YtcflkcjicaieeaaTyDatSent
import Derived.Test.YtcflkcjicaieeaaMark
namespace Go.Proofs.Ytcflkcjicaieeaa
open Go.ChangeShapes Go.WideShapes Go.ChangeAt Go.RowKit
set_option linter.unusedVariables false
set_option linter.unusedSimpArgs false

def mkDatSent (k : Int) (x : DDatSent) : DDatSent := { xMark := k, xPiece := { xTsn := k + 1, xStream := k + 1 + 1, xSsn := k + 1 + 1 + 1, xFirst := (k + 1 + 1 + 1 + 1) % 3 == 0, xLast := (k + 1 + 1 + 1 + 1 + 1) % 3 == 0, xLoose := (k + 1 + 1 + 1 + 1 + 1 + 1) % 3 == 0, xBody := marks (k + 1 + 1 + 1 + 1 + 1 + 1 + 1) x.xPiece.xBody.length : DDatPiece }, xTimes := k + 1 + 1 + 1 + 1 + 1 + 1 + 1 + ((x.xPiece.xBody.length : Nat) : Int), xAcked := (k + 1 + 1 + 1 + 1 + 1 + 1 + 1 + ((x.xPiece.xBody.length : Nat) : Int) + 1) % 3 == 0 : DDatSent }
def smDatSent (x : DDatSent) : Nat := 9 + x.xPiece.xBody.length

set_option maxRecDepth 100000 in
set_option maxHeartbeats 4000000 in
theorem markDatSentS_m (f : List Nat) (v : Value) (k : Int) (xs : List DDatSent) (w : World) (hv : OwDatSentS w f v xs) (hnd : f.Nodup) (hk : 0 ≤ k) (hs : k + szL smDatSent xs ≤ 4294967296) :
    Calls Try.prog 140 #[v, .int .i64 k] w fun e w' => e = .returned (.int .i64 (k + szL smDatSent xs)) ∧ OwDatSentS w' f v (mkL mkDatSent smDatSent k xs) ∧ FrL f w w' := by
  unfold OwDatSentS at *
  obtain ⟨A, c, rfl⟩ := hv.slice
  have hcv := RdS.cap (hv.rd (fun _ _ _ h => EDatSent.rd h))
  have Hv := Lib.hid hv
  have Hnd := Lib.hid hnd
  clear hv hnd
  generalize hl : xs.length = n at *
  have Hl := Lib.hid hl
  clear hl
  have Hs := Lib.hid hs
  clear hs
  go_enter Try.func140, Try.ntmps140
  go_wp2
  go_loopw [1, 5] (fun q i w2 => ∃ j : Nat, j ≤ n ∧ i = .int .i64 j ∧ q = .int .i64 (k + szL smDatSent (xs.take j)) ∧ OwL 189 10 EDatSent w2 f (.slice A n c) (mkL mkDatSent smDatSent k (xs.take j) ++ xs.drop j) ∧ FrL f w w2) (fun _ i _ => n - (intOf i).toNat)
  case atStart => exact ⟨0, by omega, rfl, by simp [szL], by simpa [mkL] using Hv.out, FrL.refl _ _⟩
  case round =>
    obtain ⟨j, hj, rfl, rfl, ho, hf⟩ := hrel
    have Ho := Lib.hid ho
    have Hf := Lib.hid hf
    clear ho hf
    by_cases hlt : j < n
    · obtain ⟨g, rfl⟩ := Ho.out.form0 (by omega)
      have hjx : j < xs.length := by rw [Hl.out]; exact hlt
      have hle := szL_take_le (sz := smDatSent) (xs := xs) (j + 1)
      have hsu := szL_take_succ (sz := smDatSent) hjx
      have hb0 := Hs.out
      have hq : k + szL smDatSent (xs.take j) + smDatSent xs[j] ≤ 4294967296 := by omega
      have Hsu := Lib.hid hsu
      clear hle hsu hb0
      obtain ⟨f', cs, pre, post, hjl, hE, hr, hpl, hcl, hgf, hfn, hfb, hgb, close⟩ := Ho.out.focus EDatSent.framed EDatSent.inside Hnd.out hlt
      have hget : (mkL mkDatSent smDatSent k (xs.take j) ++ xs.drop j)[j] = xs[j] := by
        have h1 := mkL_mid (mk := mkDatSent) (sz := smDatSent) (k := k) hjx
        rw [List.getElem?_eq_getElem hjl] at h1
        injection h1
      rw [hget] at hE
      have Hset := Lib.hid (mkL_set (mk := mkDatSent) (sz := smDatSent) (k := k) hjx)
      have hsm : smDatSent xs[j] = 9 + xs[j].xPiece.xBody.length := rfl
      rw [hsm] at hq
      obtain ⟨q, hqe⟩ : ∃ q : Int, q = k + szL smDatSent (xs.take j) := ⟨_, rfl⟩
      have hq0 : 0 ≤ q := by omega
      rw [← hqe] at hq Hset ⊢
      have Hqe := Lib.hid hqe
      clear hqe hsm hget
      obtain ⟨v7, f7, rfl, h7, hff⟩ := hE
      obtain rfl := hff.symm
      have FC := Lib.hid (show Foc 189 10 g n c j pre post wr [.int .i64 xs[j].xMark, .int .i64 xs[j].xPiece.xTsn, .int .i64 xs[j].xPiece.xStream, .int .i64 xs[j].xPiece.xSsn, .bool xs[j].xPiece.xFirst, .bool xs[j].xPiece.xLast, .bool xs[j].xPiece.xLoose, v7, .int .i64 xs[j].xTimes, .bool xs[j].xAcked] from ⟨hr, hpl, rfl, hlt⟩)
      have Hc := Lib.hid (show ∀ w' cs' x', Foc 189 10 g n c j pre post w' cs' → FrL (g :: f7) wr w' → EDatSent w' f7 cs' x' → _ from fun w' cs' x' h => close w' cs' x' h.row h.m)
      have HF := Lib.hid (FrL.refl (g :: f7) wr)
      have G7 := Lib.hid (show g ∉ f7 by simp_all)
      have O7 := Lib.hid h7
      have Hfb := Lib.hid hfb
      have Hgb := Lib.hid hgb
      clear hr hpl hcl close hgf hfn hfb hgb h7
      have c0 := FC.out.at0 rfl
      have z0 := FC.out.frozen (j * 10)
      have c1 := FC.out.at (i := 1) rfl
      have z1 := FC.out.frozen (j * 10 + 1)
      have c2 := FC.out.at2 (p := 1) (i := 1) rfl
      have z2 := FC.out.frozen (j * 10 + 1 + 1)
      have c3 := FC.out.at2 (p := 1) (i := 2) rfl
      have z3 := FC.out.frozen (j * 10 + 1 + 2)
      have c4 := FC.out.at2 (p := 1) (i := 3) rfl
      have z4 := FC.out.frozen (j * 10 + 1 + 3)
      have c5 := FC.out.at2 (p := 1) (i := 4) rfl
      have z5 := FC.out.frozen (j * 10 + 1 + 4)
      have c6 := FC.out.at2 (p := 1) (i := 5) rfl
      have z6 := FC.out.frozen (j * 10 + 1 + 5)
      have c7 := FC.out.at2 (p := 1) (i := 6) rfl
      have z7 := FC.out.frozen (j * 10 + 1 + 6)
      have c8 := FC.out.at (i := 8) rfl
      have z8 := FC.out.frozen (j * 10 + 8)
      have c9 := FC.out.at (i := 9) rfl
      have z9 := FC.out.frozen (j * 10 + 9)
      go_wp2_with fail
      refine (markByteS_m f7 _ _ xs[j].xPiece.xBody _ (by repeat first | with_reducible exact O7.out | with_reducible refine OwBy.set ?_ G7.out) (by omega) ⟨by omega, by omega⟩).mono ?_
      rintro e w7' ⟨rfl, o7, r7⟩
      have FC := Lib.hid (Foc.frl (e := 189) (m := 10) (g := g) (n := n) (c := c) (j := j) (pre := pre) (post := post) (by repeat first | with_reducible exact FC.out | (with_reducible refine' Foc.set ?_ (by decide); rotate_left) | (with_reducible refine' Foc.set0 ?_ (by decide); rotate_left) | (with_reducible refine' Foc.set2 ?_ (by decide); rotate_left)) r7 G7.out)
      simp only [Nat.reduceAdd, List.set_cons_zero, List.set_cons_succ] at FC
      have O7 := Lib.hid o7
      have HF := Lib.hid (FrL.trans (bs := g :: f7) (a := wr) (by repeat first | with_reducible exact HF.out | with_reducible refine FrL.set ?_ _ (by simp)) (r7.mono (by intro b hb; simp [hb])))
      clear o7 r7 c0 z0 c1 z1 c2 z2 c3 z3 c4 z4 c5 z5 c6 z6 c7 z7 c8 z8 c9 z9
      have c0 := FC.out.at0 rfl
      have z0 := FC.out.frozen (j * 10)
      have c1 := FC.out.at (i := 1) rfl
      have z1 := FC.out.frozen (j * 10 + 1)
      have c2 := FC.out.at2 (p := 1) (i := 1) rfl
      have z2 := FC.out.frozen (j * 10 + 1 + 1)
      have c3 := FC.out.at2 (p := 1) (i := 2) rfl
      have z3 := FC.out.frozen (j * 10 + 1 + 2)
      have c4 := FC.out.at2 (p := 1) (i := 3) rfl
      have z4 := FC.out.frozen (j * 10 + 1 + 3)
      have c5 := FC.out.at2 (p := 1) (i := 4) rfl
      have z5 := FC.out.frozen (j * 10 + 1 + 4)
      have c6 := FC.out.at2 (p := 1) (i := 5) rfl
      have z6 := FC.out.frozen (j * 10 + 1 + 5)
      have c7 := FC.out.at2 (p := 1) (i := 6) rfl
      have z7 := FC.out.frozen (j * 10 + 1 + 6)
      have c8 := FC.out.at (i := 8) rfl
      have z8 := FC.out.frozen (j * 10 + 8)
      have c9 := FC.out.at (i := 9) rfl
      have z9 := FC.out.frozen (j * 10 + 9)
      go_wp2
      refine ⟨⟨j + 1, by omega, by go_num, congrArg _ (by rw [Hsu.out]; have h1 := Hqe.out; simp only [smDatSent]; omega), ?_, ?_⟩, by simp [intOf]; omega⟩
      · rw [← Hset.out]
        refine Hc.out _ _ _ (by repeat first | with_reducible exact FC.out | (with_reducible refine' Foc.set ?_ (by decide); rotate_left) | (with_reducible refine' Foc.set0 ?_ (by decide); rotate_left) | (with_reducible refine' Foc.set2 ?_ (by decide); rotate_left)) (by repeat first | with_reducible exact HF.out | with_reducible refine FrL.set ?_ _ (by simp)) ?_
        refine ⟨v7, f7, ?_, ?_, rfl⟩
        · simp only [Nat.reduceAdd, List.set_cons_zero, List.set_cons_succ, mkDatSent, List.cons.injEq, Value.int.injEq, Value.bool.injEq, true_and, and_true]; try (and_intros <;> first | rfl | omega | (congr 2; omega) | (congr 1; omega))
        · simp only [mkDatSent]
          exact (by repeat first | with_reducible exact O7.out | with_reducible refine OwBy.set ?_ G7.out)
      · exact Hf.out.trans (FrL.mono (bs := g :: f7) (by repeat first | with_reducible exact HF.out | with_reducible refine FrL.set ?_ _ (by simp)) (by intro b hb; exact (List.mem_cons.1 hb).elim (fun h => h ▸ Hgb.out) (fun h => Hfb.out b h)))
    · have : j = n := by omega
      subst this
      have ho := Ho.out
      rw [List.take_of_length_le (by rw [Hl.out]; omega), List.drop_of_length_le (by rw [Hl.out]; omega), List.append_nil] at ho
      have Hx := Lib.hid (List.take_of_length_le (l := xs) (i := j) (by rw [Hl.out]; omega))
      go_wp2
      go_ret
      exact ⟨retI (by rw [Hx.out]), ho, Hf.out⟩

set_option maxRecDepth 100000 in
set_option maxHeartbeats 4000000 in
theorem heldDatSentS_h (v : Value) (k : Int) (xs : List DDatSent) (w : World) (hv : RdDatSentS w v (mkL mkDatSent smDatSent k xs)) (hk : 0 ≤ k) (hs : k + szL smDatSent xs ≤ 4294967296) :
    Calls Try.prog 149 #[v, .int .i64 k] w fun e w' => e = .returned (.int .i64 (k + szL smDatSent xs)) ∧ Below w.heap.size w w' := by
  obtain ⟨A, c, rfl⟩ := RdS.slice hv
  have hcv := RdS.cap hv
  have Hv := Lib.hid hv
  clear hv
  have Hs := Lib.hid hs
  clear hs
  generalize hl : (mkL mkDatSent smDatSent k xs).length = n at *
  have Hl := Lib.hid (hl.symm.trans (mkL_len k xs)).symm
  clear hl
  go_enter Try.func149, Try.ntmps149
  go_wp2
  go_loopw [1, 5] (fun q i w2 => ∃ j : Nat, j ≤ n ∧ i = .int .i64 j ∧ q = .int .i64 (k + szL smDatSent (xs.take j)) ∧ Below w.heap.size w w2) (fun _ i _ => n - (intOf i).toNat)
  case atStart => exact ⟨0, by omega, rfl, by simp [szL], Below.refl _ _⟩
  case round =>
    obtain ⟨j, hj, rfl, rfl, hb⟩ := hrel
    have HB := Lib.hid hb
    clear hb
    by_cases hlt : j < n
    · have hjx : j < xs.length := by rw [Hl.out]; exact hlt
      have hle := szL_take_le (sz := smDatSent) (xs := xs) (j + 1)
      have hsu := szL_take_succ (sz := smDatSent) hjx
      have hb0 := Hs.out
      have hq : k + szL smDatSent (xs.take j) + smDatSent xs[j] ≤ 4294967296 := by omega
      have Hsu := Lib.hid hsu
      clear hle hsu hb0
      obtain ⟨ad, cs, hk2, rfl, hcl, hca, hE⟩ := RdS.at_ (Hv.out.below HB.out) hlt
      have hget : (mkL mkDatSent smDatSent k xs)[j] = mkDatSent (k + szL smDatSent (xs.take j)) xs[j] := by
        have h1 := mkL_get (mk := mkDatSent) (sz := smDatSent) (k := k) hjx
        rw [List.getElem?_eq_getElem hk2] at h1
        injection h1
      rw [hget] at hE
      have hsm : smDatSent xs[j] = 9 + xs[j].xPiece.xBody.length := rfl
      rw [hsm] at hq
      obtain ⟨q, hqe⟩ : ∃ q : Int, q = k + szL smDatSent (xs.take j) := ⟨_, rfl⟩
      have hq0 : 0 ≤ q := by omega
      rw [← hqe] at hq hE ⊢
      have Hqe := Lib.hid hqe
      clear hqe hsm hget
      obtain ⟨v7, rfl, h7⟩ := hE
      simp only [mkDatSent] at hca h7
      have H7 := Lib.hid h7
      clear h7
      have HC := Lib.hid hca
      have c0 := hca.c0
      have c1 := hca.ci 0 rfl
      have c2 := hca.ci2 1 1 rfl (by decide)
      have c3 := hca.ci2 1 2 rfl (by decide)
      have c4 := hca.ci2 1 3 rfl (by decide)
      have c5 := hca.ci2 1 4 rfl (by decide)
      have c6 := hca.ci2 1 5 rfl (by decide)
      have c7 := hca.ci2 1 6 rfl (by decide)
      have c8 := hca.ci 7 rfl
      have c9 := hca.ci 8 rfl
      clear hca hcl
      go_wp2_with fail
      refine (heldByteS_h _ _ _ _ (by first | exact H7.out | (have hh := H7.out; refine Eq.mp (congrArg _ ?_) hh; congr 1; omega)) (by omega) ⟨by omega, by omega⟩).mono ?_
      rintro e w7' ⟨rfl, b7⟩
      have HC := Lib.hid (HC.out.below b7)
      have HB := Lib.hid (HB.out.trans (b7.mono HB.out.size))
      clear b7 c0 c1 c2 c3 c4 c5 c6 c7 c8 c9
      have c0 := HC.out.c0
      have c1 := HC.out.ci 0 rfl
      have c2 := HC.out.ci2 1 1 rfl (by decide)
      have c3 := HC.out.ci2 1 2 rfl (by decide)
      have c4 := HC.out.ci2 1 3 rfl (by decide)
      have c5 := HC.out.ci2 1 4 rfl (by decide)
      have c6 := HC.out.ci2 1 5 rfl (by decide)
      have c7 := HC.out.ci2 1 6 rfl (by decide)
      have c8 := HC.out.ci 7 rfl
      have c9 := HC.out.ci 8 rfl
      go_wp2
      exact ⟨⟨j + 1, by omega, by go_num, congrArg _ (by rw [Hsu.out]; have h1 := Hqe.out; simp only [smDatSent]; omega), HB.out⟩, by simp [intOf]; omega⟩
    · have : j = n := by omega
      subst this
      have Hx := Lib.hid (List.take_of_length_le (l := xs) (i := j) (by rw [Hl.out]; omega))
      go_wp2
      go_ret
      exact ⟨retI (by rw [Hx.out]), HB.out⟩
end Go.Proofs.Ytcflkcjicaieeaa
