/-
  Marks of DatPiece, and of lists of it. (Written by wip/tools/genmark.py.)
-/
import Derived.Test.YthdjjgbjemaabaaTyDatPiece
import Derived.Test.YthdjjgbjemaabaaMark
namespace Go.Proofs.Ythdjjgbjemaabaa
open Go.ChangeShapes Go.WideShapes Go.ChangeAt Go.RowKit
set_option linter.unusedVariables false
set_option linter.unusedSimpArgs false

def mkDatPiece (k : Int) (x : DDatPiece) : DDatPiece := { xTsn := k, xStream := k + 1, xSsn := k + 1 + 1, xFirst := (k + 1 + 1 + 1) % 3 == 0, xLast := (k + 1 + 1 + 1 + 1) % 3 == 0, xLoose := (k + 1 + 1 + 1 + 1 + 1) % 3 == 0, xBody := marks (k + 1 + 1 + 1 + 1 + 1 + 1) x.xBody.length : DDatPiece }
def smDatPiece (x : DDatPiece) : Nat := 6 + x.xBody.length

set_option maxRecDepth 100000 in
set_option maxHeartbeats 4000000 in
theorem markDatPieceS_m (f : List Nat) (v : Value) (k : Int) (xs : List DDatPiece) (w : World) (hv : OwDatPieceS w f v xs) (hnd : f.Nodup) (hk : 0 ≤ k) (hs : k + szL smDatPiece xs ≤ 4294967296) :
    Calls Try.prog 202 #[v, .int .i64 k] w fun e w' => e = .returned (.int .i64 (k + szL smDatPiece xs)) ∧ OwDatPieceS w' f v (mkL mkDatPiece smDatPiece k xs) ∧ FrL f w w' := by
  unfold OwDatPieceS at *
  obtain ⟨A, c, rfl⟩ := hv.slice
  have hcv := RdS.cap (hv.rd (fun _ _ _ h => EDatPiece.rd h))
  have Hv := Lib.hid hv
  have Hnd := Lib.hid hnd
  clear hv hnd
  generalize hl : xs.length = n at *
  have Hl := Lib.hid hl
  clear hl
  have Hs := Lib.hid hs
  clear hs
  go_enter Try.func202, Try.ntmps202
  go_wp2
  go_loopw [1, 5] (fun q i w2 => ∃ j : Nat, j ≤ n ∧ i = .int .i64 j ∧ q = .int .i64 (k + szL smDatPiece (xs.take j)) ∧ OwL 276 7 EDatPiece w2 f (.slice A n c) (mkL mkDatPiece smDatPiece k (xs.take j) ++ xs.drop j) ∧ FrL f w w2) (fun _ i _ => n - (intOf i).toNat)
  case atStart => exact ⟨0, by omega, rfl, by simp [szL], by simpa [mkL] using Hv.out, FrL.refl _ _⟩
  case round =>
    obtain ⟨j, hj, rfl, rfl, ho, hf⟩ := hrel
    have Ho := Lib.hid ho
    have Hf := Lib.hid hf
    clear ho hf
    by_cases hlt : j < n
    · obtain ⟨g, rfl⟩ := Ho.out.form0 (by omega)
      have hjx : j < xs.length := by rw [Hl.out]; exact hlt
      have hle := szL_take_le (sz := smDatPiece) (xs := xs) (j + 1)
      have hsu := szL_take_succ (sz := smDatPiece) hjx
      have hb0 := Hs.out
      have hq : k + szL smDatPiece (xs.take j) + smDatPiece xs[j] ≤ 4294967296 := by omega
      have Hsu := Lib.hid hsu
      clear hle hsu hb0
      obtain ⟨f', cs, pre, post, hjl, hE, hr, hpl, hcl, hgf, hfn, hfb, hgb, close⟩ := Ho.out.focus EDatPiece.framed EDatPiece.inside Hnd.out hlt
      have hget : (mkL mkDatPiece smDatPiece k (xs.take j) ++ xs.drop j)[j] = xs[j] := by
        have h1 := mkL_mid (mk := mkDatPiece) (sz := smDatPiece) (k := k) hjx
        rw [List.getElem?_eq_getElem hjl] at h1
        injection h1
      rw [hget] at hE
      have Hset := Lib.hid (mkL_set (mk := mkDatPiece) (sz := smDatPiece) (k := k) hjx)
      have hsm : smDatPiece xs[j] = 6 + xs[j].xBody.length := rfl
      rw [hsm] at hq
      obtain ⟨q, hqe⟩ : ∃ q : Int, q = k + szL smDatPiece (xs.take j) := ⟨_, rfl⟩
      have hq0 : 0 ≤ q := by omega
      rw [← hqe] at hq Hset ⊢
      have Hqe := Lib.hid hqe
      clear hqe hsm hget
      obtain ⟨v6, f6, rfl, h6, hff⟩ := hE
      obtain rfl := hff.symm
      have FC := Lib.hid (show Foc 276 7 g n c j pre post wr [.int .i64 xs[j].xTsn, .int .i64 xs[j].xStream, .int .i64 xs[j].xSsn, .bool xs[j].xFirst, .bool xs[j].xLast, .bool xs[j].xLoose, v6] from ⟨hr, hpl, rfl, hlt⟩)
      have Hc := Lib.hid (show ∀ w' cs' x', Foc 276 7 g n c j pre post w' cs' → FrL (g :: f6) wr w' → EDatPiece w' f6 cs' x' → _ from fun w' cs' x' h => close w' cs' x' h.row h.m)
      have HF := Lib.hid (FrL.refl (g :: f6) wr)
      have G6 := Lib.hid (show g ∉ f6 by simp_all)
      have O6 := Lib.hid h6
      have Hfb := Lib.hid hfb
      have Hgb := Lib.hid hgb
      clear hr hpl hcl close hgf hfn hfb hgb h6
      have c0 := FC.out.at0 rfl
      have z0 := FC.out.frozen (j * 7)
      have c1 := FC.out.at (i := 1) rfl
      have z1 := FC.out.frozen (j * 7 + 1)
      have c2 := FC.out.at (i := 2) rfl
      have z2 := FC.out.frozen (j * 7 + 2)
      have c3 := FC.out.at (i := 3) rfl
      have z3 := FC.out.frozen (j * 7 + 3)
      have c4 := FC.out.at (i := 4) rfl
      have z4 := FC.out.frozen (j * 7 + 4)
      have c5 := FC.out.at (i := 5) rfl
      have z5 := FC.out.frozen (j * 7 + 5)
      have c6 := FC.out.at (i := 6) rfl
      have z6 := FC.out.frozen (j * 7 + 6)
      go_wp2_with fail
      refine (markByteS_m f6 _ _ xs[j].xBody _ (by repeat first | with_reducible exact O6.out | with_reducible refine OwBy.set ?_ G6.out) (by omega) ⟨by omega, by omega⟩).mono ?_
      rintro e w6' ⟨rfl, o6, r6⟩
      have FC := Lib.hid (Foc.frl (e := 276) (m := 7) (g := g) (n := n) (c := c) (j := j) (pre := pre) (post := post) (by repeat first | with_reducible exact FC.out | (with_reducible refine' Foc.set ?_ (by decide); rotate_left) | (with_reducible refine' Foc.set0 ?_ (by decide); rotate_left) | (with_reducible refine' Foc.set2 ?_ (by decide); rotate_left)) r6 G6.out)
      simp only [Nat.reduceAdd, List.set_cons_zero, List.set_cons_succ] at FC
      have O6 := Lib.hid o6
      have HF := Lib.hid (FrL.trans (bs := g :: f6) (a := wr) (by repeat first | with_reducible exact HF.out | with_reducible refine FrL.set ?_ _ (by simp)) (r6.mono (by intro b hb; simp [hb])))
      clear o6 r6 c0 z0 c1 z1 c2 z2 c3 z3 c4 z4 c5 z5 c6 z6
      have c0 := FC.out.at0 rfl
      have z0 := FC.out.frozen (j * 7)
      have c1 := FC.out.at (i := 1) rfl
      have z1 := FC.out.frozen (j * 7 + 1)
      have c2 := FC.out.at (i := 2) rfl
      have z2 := FC.out.frozen (j * 7 + 2)
      have c3 := FC.out.at (i := 3) rfl
      have z3 := FC.out.frozen (j * 7 + 3)
      have c4 := FC.out.at (i := 4) rfl
      have z4 := FC.out.frozen (j * 7 + 4)
      have c5 := FC.out.at (i := 5) rfl
      have z5 := FC.out.frozen (j * 7 + 5)
      have c6 := FC.out.at (i := 6) rfl
      have z6 := FC.out.frozen (j * 7 + 6)
      go_wp2
      refine ⟨⟨j + 1, by omega, by go_num, congrArg _ (by rw [Hsu.out]; have h1 := Hqe.out; simp only [smDatPiece]; omega), ?_, ?_⟩, by simp [intOf]; omega⟩
      · rw [← Hset.out]
        refine Hc.out _ _ _ (by repeat first | with_reducible exact FC.out | (with_reducible refine' Foc.set ?_ (by decide); rotate_left) | (with_reducible refine' Foc.set0 ?_ (by decide); rotate_left) | (with_reducible refine' Foc.set2 ?_ (by decide); rotate_left)) (by repeat first | with_reducible exact HF.out | with_reducible refine FrL.set ?_ _ (by simp)) ?_
        refine ⟨v6, f6, ?_, ?_, rfl⟩
        · simp only [Nat.reduceAdd, List.set_cons_zero, List.set_cons_succ, mkDatPiece, List.cons.injEq, Value.int.injEq, Value.bool.injEq, true_and, and_true]; try (and_intros <;> first | rfl | omega | (congr 2; omega) | (congr 1; omega))
        · simp only [mkDatPiece]
          exact (by repeat first | with_reducible exact O6.out | with_reducible refine OwBy.set ?_ G6.out)
      · exact Hf.out.trans (FrL.mono (bs := g :: f6) (by repeat first | with_reducible exact HF.out | with_reducible refine FrL.set ?_ _ (by simp)) (by intro b hb; exact (List.mem_cons.1 hb).elim (fun h => h ▸ Hgb.out) (fun h => Hfb.out b h)))
    · have : j = n := by omega
      subst this
      have ho := Ho.out
      rw [List.take_of_length_le (by rw [Hl.out]; omega), List.drop_of_length_le (by rw [Hl.out]; omega), List.append_nil] at ho
      have Hx := Lib.hid (List.take_of_length_le (l := xs) (i := j) (by rw [Hl.out]; omega))
      go_wp2
      go_ret
      exact ⟨retI (by rw [Hx.out]), ho, Hf.out⟩

set_option maxRecDepth 100000 in
set_option maxHeartbeats 4000000 in
theorem heldDatPieceS_h (v : Value) (k : Int) (xs : List DDatPiece) (w : World) (hv : RdDatPieceS w v (mkL mkDatPiece smDatPiece k xs)) (hk : 0 ≤ k) (hs : k + szL smDatPiece xs ≤ 4294967296) :
    Calls Try.prog 251 #[v, .int .i64 k] w fun e w' => e = .returned (.int .i64 (k + szL smDatPiece xs)) ∧ Below w.heap.size w w' := by
  obtain ⟨A, c, rfl⟩ := RdS.slice hv
  have hcv := RdS.cap hv
  have Hv := Lib.hid hv
  clear hv
  have Hs := Lib.hid hs
  clear hs
  generalize hl : (mkL mkDatPiece smDatPiece k xs).length = n at *
  have Hl := Lib.hid (hl.symm.trans (mkL_len k xs)).symm
  clear hl
  go_enter Try.func251, Try.ntmps251
  go_wp2
  go_loopw [1, 5] (fun q i w2 => ∃ j : Nat, j ≤ n ∧ i = .int .i64 j ∧ q = .int .i64 (k + szL smDatPiece (xs.take j)) ∧ Below w.heap.size w w2) (fun _ i _ => n - (intOf i).toNat)
  case atStart => exact ⟨0, by omega, rfl, by simp [szL], Below.refl _ _⟩
  case round =>
    obtain ⟨j, hj, rfl, rfl, hb⟩ := hrel
    have HB := Lib.hid hb
    clear hb
    by_cases hlt : j < n
    · have hjx : j < xs.length := by rw [Hl.out]; exact hlt
      have hle := szL_take_le (sz := smDatPiece) (xs := xs) (j + 1)
      have hsu := szL_take_succ (sz := smDatPiece) hjx
      have hb0 := Hs.out
      have hq : k + szL smDatPiece (xs.take j) + smDatPiece xs[j] ≤ 4294967296 := by omega
      have Hsu := Lib.hid hsu
      clear hle hsu hb0
      obtain ⟨ad, cs, hk2, rfl, hcl, hca, hE⟩ := RdS.at_ (Hv.out.below HB.out) hlt
      have hget : (mkL mkDatPiece smDatPiece k xs)[j] = mkDatPiece (k + szL smDatPiece (xs.take j)) xs[j] := by
        have h1 := mkL_get (mk := mkDatPiece) (sz := smDatPiece) (k := k) hjx
        rw [List.getElem?_eq_getElem hk2] at h1
        injection h1
      rw [hget] at hE
      have hsm : smDatPiece xs[j] = 6 + xs[j].xBody.length := rfl
      rw [hsm] at hq
      obtain ⟨q, hqe⟩ : ∃ q : Int, q = k + szL smDatPiece (xs.take j) := ⟨_, rfl⟩
      have hq0 : 0 ≤ q := by omega
      rw [← hqe] at hq hE ⊢
      have Hqe := Lib.hid hqe
      clear hqe hsm hget
      obtain ⟨v6, rfl, h6⟩ := hE
      simp only [mkDatPiece] at hca h6
      have H6 := Lib.hid h6
      clear h6
      have HC := Lib.hid hca
      have c0 := hca.c0
      have c1 := hca.ci 0 rfl
      have c2 := hca.ci 1 rfl
      have c3 := hca.ci 2 rfl
      have c4 := hca.ci 3 rfl
      have c5 := hca.ci 4 rfl
      have c6 := hca.ci 5 rfl
      clear hca hcl
      go_wp2_with fail
      refine (heldByteS_h _ _ _ _ (by first | exact H6.out | (have hh := H6.out; refine Eq.mp (congrArg _ ?_) hh; congr 1; omega)) (by omega) ⟨by omega, by omega⟩).mono ?_
      rintro e w6' ⟨rfl, b6⟩
      have HC := Lib.hid (HC.out.below b6)
      have HB := Lib.hid (HB.out.trans (b6.mono HB.out.size))
      clear b6 c0 c1 c2 c3 c4 c5 c6
      have c0 := HC.out.c0
      have c1 := HC.out.ci 0 rfl
      have c2 := HC.out.ci 1 rfl
      have c3 := HC.out.ci 2 rfl
      have c4 := HC.out.ci 3 rfl
      have c5 := HC.out.ci 4 rfl
      have c6 := HC.out.ci 5 rfl
      go_wp2
      exact ⟨⟨j + 1, by omega, by go_num, congrArg _ (by rw [Hsu.out]; have h1 := Hqe.out; simp only [smDatPiece]; omega), HB.out⟩, by simp [intOf]; omega⟩
    · have : j = n := by omega
      subst this
      have Hx := Lib.hid (List.take_of_length_le (l := xs) (i := j) (by rw [Hl.out]; omega))
      go_wp2
      go_ret
      exact ⟨retI (by rw [Hx.out]), HB.out⟩

def maDatPiece (k : Int) (x : DDatPiece) : DDatPiece := { xTsn := x.xTsn, xStream := x.xStream, xSsn := x.xSsn, xFirst := x.xFirst, xLast := x.xLast, xLoose := x.xLoose, xBody := marks (k) x.xBody.length : DDatPiece }
def saDatPiece (x : DDatPiece) : Nat := x.xBody.length
end Go.Proofs.Ythdjjgbjemaabaa
