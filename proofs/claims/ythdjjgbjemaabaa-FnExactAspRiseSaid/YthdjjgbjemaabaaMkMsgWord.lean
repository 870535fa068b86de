/-
  Marks of MsgWord, and of lists of it. (Written by wip/tools/genmark.py.)
-/
import Derived.Test.YthdjjgbjemaabaaTyMsgWord
import Derived.Test.YthdjjgbjemaabaaMark
namespace Go.Proofs.Ythdjjgbjemaabaa
open Go.ChangeShapes Go.WideShapes Go.ChangeAt Go.RowKit
set_option linter.unusedVariables false
set_option linter.unusedSimpArgs false

def mkMsgWord (k : Int) (x : DMsgWord) : DMsgWord := { xKind := k, xCtx := k + 1, xNum := k + 1 + 1, xDest := k + 1 + 1 + 1, xSls := k + 1 + 1 + 1 + 1, xBody := marks (k + 1 + 1 + 1 + 1 + 1) x.xBody.length : DMsgWord }
def smMsgWord (x : DMsgWord) : Nat := 5 + x.xBody.length

set_option maxRecDepth 100000 in
set_option maxHeartbeats 4000000 in
theorem markMsgWordS_m (f : List Nat) (v : Value) (k : Int) (xs : List DMsgWord) (w : World) (hv : OwMsgWordS w f v xs) (hnd : f.Nodup) (hk : 0 ≤ k) (hs : k + szL smMsgWord xs ≤ 4294967296) :
    Calls Try.prog 40 #[v, .int .i64 k] w fun e w' => e = .returned (.int .i64 (k + szL smMsgWord xs)) ∧ OwMsgWordS w' f v (mkL mkMsgWord smMsgWord k xs) ∧ FrL f w w' := by
  unfold OwMsgWordS at *
  obtain ⟨A, c, rfl⟩ := hv.slice
  have hcv := RdS.cap (hv.rd (fun _ _ _ h => EMsgWord.rd h))
  have Hv := Lib.hid hv
  have Hnd := Lib.hid hnd
  clear hv hnd
  generalize hl : xs.length = n at *
  have Hl := Lib.hid hl
  clear hl
  have Hs := Lib.hid hs
  clear hs
  go_enter Try.func40, Try.ntmps40
  go_wp2
  go_loopw [1, 5] (fun q i w2 => ∃ j : Nat, j ≤ n ∧ i = .int .i64 j ∧ q = .int .i64 (k + szL smMsgWord (xs.take j)) ∧ OwL 164 6 EMsgWord w2 f (.slice A n c) (mkL mkMsgWord smMsgWord k (xs.take j) ++ xs.drop j) ∧ FrL f w w2) (fun _ i _ => n - (intOf i).toNat)
  case atStart => exact ⟨0, by omega, rfl, by simp [szL], by simpa [mkL] using Hv.out, FrL.refl _ _⟩
  case round =>
    obtain ⟨j, hj, rfl, rfl, ho, hf⟩ := hrel
    have Ho := Lib.hid ho
    have Hf := Lib.hid hf
    clear ho hf
    by_cases hlt : j < n
    · obtain ⟨g, rfl⟩ := Ho.out.form0 (by omega)
      have hjx : j < xs.length := by rw [Hl.out]; exact hlt
      have hle := szL_take_le (sz := smMsgWord) (xs := xs) (j + 1)
      have hsu := szL_take_succ (sz := smMsgWord) hjx
      have hb0 := Hs.out
      have hq : k + szL smMsgWord (xs.take j) + smMsgWord xs[j] ≤ 4294967296 := by omega
      have Hsu := Lib.hid hsu
      clear hle hsu hb0
      obtain ⟨f', cs, pre, post, hjl, hE, hr, hpl, hcl, hgf, hfn, hfb, hgb, close⟩ := Ho.out.focus EMsgWord.framed EMsgWord.inside Hnd.out hlt
      have hget : (mkL mkMsgWord smMsgWord k (xs.take j) ++ xs.drop j)[j] = xs[j] := by
        have h1 := mkL_mid (mk := mkMsgWord) (sz := smMsgWord) (k := k) hjx
        rw [List.getElem?_eq_getElem hjl] at h1
        injection h1
      rw [hget] at hE
      have Hset := Lib.hid (mkL_set (mk := mkMsgWord) (sz := smMsgWord) (k := k) hjx)
      have hsm : smMsgWord xs[j] = 5 + xs[j].xBody.length := rfl
      rw [hsm] at hq
      obtain ⟨q, hqe⟩ : ∃ q : Int, q = k + szL smMsgWord (xs.take j) := ⟨_, rfl⟩
      have hq0 : 0 ≤ q := by omega
      rw [← hqe] at hq Hset ⊢
      have Hqe := Lib.hid hqe
      clear hqe hsm hget
      obtain ⟨v5, f5, rfl, h5, hff⟩ := hE
      obtain rfl := hff.symm
      have FC := Lib.hid (show Foc 164 6 g n c j pre post wr [.int .i64 xs[j].xKind, .int .i64 xs[j].xCtx, .int .i64 xs[j].xNum, .int .i64 xs[j].xDest, .int .i64 xs[j].xSls, v5] from ⟨hr, hpl, rfl, hlt⟩)
      have Hc := Lib.hid (show ∀ w' cs' x', Foc 164 6 g n c j pre post w' cs' → FrL (g :: f5) wr w' → EMsgWord w' f5 cs' x' → _ from fun w' cs' x' h => close w' cs' x' h.row h.m)
      have HF := Lib.hid (FrL.refl (g :: f5) wr)
      have G5 := Lib.hid (show g ∉ f5 by simp_all)
      have O5 := Lib.hid h5
      have Hfb := Lib.hid hfb
      have Hgb := Lib.hid hgb
      clear hr hpl hcl close hgf hfn hfb hgb h5
      have c0 := FC.out.at0 rfl
      have z0 := FC.out.frozen (j * 6)
      have c1 := FC.out.at (i := 1) rfl
      have z1 := FC.out.frozen (j * 6 + 1)
      have c2 := FC.out.at (i := 2) rfl
      have z2 := FC.out.frozen (j * 6 + 2)
      have c3 := FC.out.at (i := 3) rfl
      have z3 := FC.out.frozen (j * 6 + 3)
      have c4 := FC.out.at (i := 4) rfl
      have z4 := FC.out.frozen (j * 6 + 4)
      have c5 := FC.out.at (i := 5) rfl
      have z5 := FC.out.frozen (j * 6 + 5)
      go_wp2_with fail
      refine (markByteS_m f5 _ _ xs[j].xBody _ (by repeat first | with_reducible exact O5.out | with_reducible refine OwBy.set ?_ G5.out) (by omega) ⟨by omega, by omega⟩).mono ?_
      rintro e w5' ⟨rfl, o5, r5⟩
      have FC := Lib.hid (Foc.frl (e := 164) (m := 6) (g := g) (n := n) (c := c) (j := j) (pre := pre) (post := post) (by repeat first | with_reducible exact FC.out | (with_reducible refine' Foc.set ?_ (by decide); rotate_left) | (with_reducible refine' Foc.set0 ?_ (by decide); rotate_left) | (with_reducible refine' Foc.set2 ?_ (by decide); rotate_left)) r5 G5.out)
      try simp only [Nat.reduceAdd, List.set_cons_zero, List.set_cons_succ] at FC
      have O5 := Lib.hid o5
      have HF := Lib.hid (FrL.trans (bs := g :: f5) (a := wr) (by repeat first | with_reducible exact HF.out | with_reducible refine FrL.set ?_ _ (by simp)) (r5.mono (by intro b hb; simp [hb])))
      clear o5 r5 c0 z0 c1 z1 c2 z2 c3 z3 c4 z4 c5 z5
      have c0 := FC.out.at0 rfl
      have z0 := FC.out.frozen (j * 6)
      have c1 := FC.out.at (i := 1) rfl
      have z1 := FC.out.frozen (j * 6 + 1)
      have c2 := FC.out.at (i := 2) rfl
      have z2 := FC.out.frozen (j * 6 + 2)
      have c3 := FC.out.at (i := 3) rfl
      have z3 := FC.out.frozen (j * 6 + 3)
      have c4 := FC.out.at (i := 4) rfl
      have z4 := FC.out.frozen (j * 6 + 4)
      have c5 := FC.out.at (i := 5) rfl
      have z5 := FC.out.frozen (j * 6 + 5)
      go_wp2
      refine ⟨⟨j + 1, by omega, by go_num, congrArg _ (by rw [Hsu.out]; have h1 := Hqe.out; simp only [smMsgWord]; omega), ?_, ?_⟩, by simp [intOf]; omega⟩
      · rw [← Hset.out]
        refine Hc.out _ _ _ (by repeat first | with_reducible exact FC.out | (with_reducible refine' Foc.set ?_ (by decide); rotate_left) | (with_reducible refine' Foc.set0 ?_ (by decide); rotate_left) | (with_reducible refine' Foc.set2 ?_ (by decide); rotate_left)) (by repeat first | with_reducible exact HF.out | with_reducible refine FrL.set ?_ _ (by simp)) ?_
        refine ⟨v5, f5, ?_, ?_, rfl⟩
        · simp only [Nat.reduceAdd, List.set_cons_zero, List.set_cons_succ, mkMsgWord, List.cons.injEq, Value.int.injEq, Value.bool.injEq, true_and, and_true]; try (and_intros <;> first | rfl | omega | (congr 2; omega) | (congr 1; omega))
        · simp only [mkMsgWord]
          exact (by repeat first | with_reducible exact O5.out | with_reducible refine OwBy.set ?_ G5.out)
      · exact Hf.out.trans (FrL.mono (bs := g :: f5) (by repeat first | with_reducible exact HF.out | with_reducible refine FrL.set ?_ _ (by simp)) (by intro b hb; exact (List.mem_cons.1 hb).elim (fun h => h ▸ Hgb.out) (fun h => Hfb.out b h)))
    · have : j = n := by omega
      subst this
      have ho := Ho.out
      rw [List.take_of_length_le (by rw [Hl.out]; omega), List.drop_of_length_le (by rw [Hl.out]; omega), List.append_nil] at ho
      have Hx := Lib.hid (List.take_of_length_le (l := xs) (i := j) (by rw [Hl.out]; omega))
      go_wp2
      go_ret
      exact ⟨retI (by rw [Hx.out]), ho, Hf.out⟩

set_option maxRecDepth 100000 in
set_option maxHeartbeats 4000000 in
theorem heldMsgWordS_h (v : Value) (k : Int) (xs : List DMsgWord) (w : World) (hv : RdMsgWordS w v (mkL mkMsgWord smMsgWord k xs)) (hk : 0 ≤ k) (hs : k + szL smMsgWord xs ≤ 4294967296) :
    Calls Try.prog 41 #[v, .int .i64 k] w fun e w' => e = .returned (.int .i64 (k + szL smMsgWord xs)) ∧ Below w.heap.size w w' := by
  obtain ⟨A, c, rfl⟩ := RdS.slice hv
  have hcv := RdS.cap hv
  have Hv := Lib.hid hv
  clear hv
  have Hs := Lib.hid hs
  clear hs
  generalize hl : (mkL mkMsgWord smMsgWord k xs).length = n at *
  have Hl := Lib.hid (hl.symm.trans (mkL_len k xs)).symm
  clear hl
  go_enter Try.func41, Try.ntmps41
  go_wp2
  go_loopw [1, 5] (fun q i w2 => ∃ j : Nat, j ≤ n ∧ i = .int .i64 j ∧ q = .int .i64 (k + szL smMsgWord (xs.take j)) ∧ Below w.heap.size w w2) (fun _ i _ => n - (intOf i).toNat)
  case atStart => exact ⟨0, by omega, rfl, by simp [szL], Below.refl _ _⟩
  case round =>
    obtain ⟨j, hj, rfl, rfl, hb⟩ := hrel
    have HB := Lib.hid hb
    clear hb
    by_cases hlt : j < n
    · have hjx : j < xs.length := by rw [Hl.out]; exact hlt
      have hle := szL_take_le (sz := smMsgWord) (xs := xs) (j + 1)
      have hsu := szL_take_succ (sz := smMsgWord) hjx
      have hb0 := Hs.out
      have hq : k + szL smMsgWord (xs.take j) + smMsgWord xs[j] ≤ 4294967296 := by omega
      have Hsu := Lib.hid hsu
      clear hle hsu hb0
      obtain ⟨ad, cs, hk2, rfl, hcl, hca, hE⟩ := RdS.at_ (Hv.out.below HB.out) hlt
      have hget : (mkL mkMsgWord smMsgWord k xs)[j] = mkMsgWord (k + szL smMsgWord (xs.take j)) xs[j] := by
        have h1 := mkL_get (mk := mkMsgWord) (sz := smMsgWord) (k := k) hjx
        rw [List.getElem?_eq_getElem hk2] at h1
        injection h1
      rw [hget] at hE
      have hsm : smMsgWord xs[j] = 5 + xs[j].xBody.length := rfl
      rw [hsm] at hq
      obtain ⟨q, hqe⟩ : ∃ q : Int, q = k + szL smMsgWord (xs.take j) := ⟨_, rfl⟩
      have hq0 : 0 ≤ q := by omega
      rw [← hqe] at hq hE ⊢
      have Hqe := Lib.hid hqe
      clear hqe hsm hget
      obtain ⟨v5, rfl, h5⟩ := hE
      simp only [mkMsgWord] at hca h5
      have H5 := Lib.hid h5
      clear h5
      have HC := Lib.hid hca
      have c0 := hca.c0
      have c1 := hca.ci 0 rfl
      have c2 := hca.ci 1 rfl
      have c3 := hca.ci 2 rfl
      have c4 := hca.ci 3 rfl
      have c5 := hca.ci 4 rfl
      clear hca hcl
      go_wp2_with fail
      refine (heldByteS_h _ _ _ _ (by first | exact H5.out | (have hh := H5.out; refine Eq.mp (congrArg _ ?_) hh; congr 1; omega)) (by omega) ⟨by omega, by omega⟩).mono ?_
      rintro e w5' ⟨rfl, b5⟩
      have HC := Lib.hid (HC.out.below b5)
      have HB := Lib.hid (HB.out.trans (b5.mono HB.out.size))
      clear b5 c0 c1 c2 c3 c4 c5
      have c0 := HC.out.c0
      have c1 := HC.out.ci 0 rfl
      have c2 := HC.out.ci 1 rfl
      have c3 := HC.out.ci 2 rfl
      have c4 := HC.out.ci 3 rfl
      have c5 := HC.out.ci 4 rfl
      go_wp2
      exact ⟨⟨j + 1, by omega, by go_num, congrArg _ (by rw [Hsu.out]; have h1 := Hqe.out; simp only [smMsgWord]; omega), HB.out⟩, by simp [intOf]; omega⟩
    · have : j = n := by omega
      subst this
      have Hx := Lib.hid (List.take_of_length_le (l := xs) (i := j) (by rw [Hl.out]; omega))
      go_wp2
      go_ret
      exact ⟨retI (by rw [Hx.out]), HB.out⟩

def maMsgWord (k : Int) (x : DMsgWord) : DMsgWord := { xKind := x.xKind, xCtx := x.xCtx, xNum := x.xNum, xDest := x.xDest, xSls := x.xSls, xBody := marks (k) x.xBody.length : DMsgWord }
def saMsgWord (x : DMsgWord) : Nat := x.xBody.length
end Go.Proofs.Ythdjjgbjemaabaa
