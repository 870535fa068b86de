/-
  Marks of FrmChunk, and of lists of it. (Written by wip/tools/genmark.py.)
-/
import Derived.Test.YthdjjgbjemaabaaTyFrmChunk
import Derived.Test.YthdjjgbjemaabaaMark
import Derived.Test.YthdjjgbjemaabaaMkFrmGap
namespace Go.Proofs.Ythdjjgbjemaabaa
open Go.ChangeShapes Go.WideShapes Go.ChangeAt Go.RowKit
set_option linter.unusedVariables false
set_option linter.unusedSimpArgs false

theorem OwFrmGapS.set_FrmChunk {w : World} {f : List Nat} {v u : Value} {xs : List DFrmGap} {g o : Nat} (h : OwFrmGapS w f v xs) (hg : g ∉ f) : OwFrmGapS (w.setCell ⟨g, o, none⟩ u) f v xs := OwL.set EFrmGap.framed h hg
theorem OwFrmGapS.frl_FrmChunk {w w' : World} {f cs : List Nat} {v : Value} {xs : List DFrmGap} (h : OwFrmGapS w f v xs) (hf : FrL cs w w') (hd : ∀ b ∈ f, b ∉ cs) : OwFrmGapS w' f v xs := OwL.frl EFrmGap.framed EFrmGap.inside h hf hd
def mkFrmChunk (k : Int) (x : DFrmChunk) : DFrmChunk := { xKind := k, xFlags := k + 1, xTag := k + 1 + 1, xTsn := k + 1 + 1 + 1, xStream := k + 1 + 1 + 1 + 1, xSsn := k + 1 + 1 + 1 + 1 + 1, xWindow := k + 1 + 1 + 1 + 1 + 1 + 1, xCause := k + 1 + 1 + 1 + 1 + 1 + 1 + 1, xGaps := mkL mkFrmGap smFrmGap (k + 1 + 1 + 1 + 1 + 1 + 1 + 1 + 1) x.xGaps, xDoubles := marksI (k + 1 + 1 + 1 + 1 + 1 + 1 + 1 + 1 + ((szL smFrmGap x.xGaps : Nat) : Int)) x.xDoubles.length, xBody := marks (k + 1 + 1 + 1 + 1 + 1 + 1 + 1 + 1 + ((szL smFrmGap x.xGaps : Nat) : Int) + ((x.xDoubles.length : Nat) : Int)) x.xBody.length : DFrmChunk }
def smFrmChunk (x : DFrmChunk) : Nat := 8 + szL smFrmGap x.xGaps + x.xDoubles.length + x.xBody.length

set_option maxRecDepth 100000 in
set_option maxHeartbeats 4000000 in
theorem markFrmChunkS_m (f : List Nat) (v : Value) (k : Int) (xs : List DFrmChunk) (w : World) (hv : OwFrmChunkS w f v xs) (hnd : f.Nodup) (hk : 0 ≤ k) (hs : k + szL smFrmChunk xs ≤ 4294967296) :
    Calls Try.prog 157 #[v, .int .i64 k] w fun e w' => e = .returned (.int .i64 (k + szL smFrmChunk xs)) ∧ OwFrmChunkS w' f v (mkL mkFrmChunk smFrmChunk k xs) ∧ FrL f w w' := by
  unfold OwFrmChunkS at *
  obtain ⟨A, c, rfl⟩ := hv.slice
  have hcv := RdS.cap (hv.rd (fun _ _ _ h => EFrmChunk.rd h))
  have Hv := Lib.hid hv
  have Hnd := Lib.hid hnd
  clear hv hnd
  generalize hl : xs.length = n at *
  have Hl := Lib.hid hl
  clear hl
  have Hs := Lib.hid hs
  clear hs
  go_enter Try.func157, Try.ntmps157
  go_wp2
  go_loopw [1, 5] (fun q i w2 => ∃ j : Nat, j ≤ n ∧ i = .int .i64 j ∧ q = .int .i64 (k + szL smFrmChunk (xs.take j)) ∧ OwL 189 11 EFrmChunk w2 f (.slice A n c) (mkL mkFrmChunk smFrmChunk k (xs.take j) ++ xs.drop j) ∧ FrL f w w2) (fun _ i _ => n - (intOf i).toNat)
  case atStart => exact ⟨0, by omega, rfl, by simp [szL], by simpa [mkL] using Hv.out, FrL.refl _ _⟩
  case round =>
    obtain ⟨j, hj, rfl, rfl, ho, hf⟩ := hrel
    have Ho := Lib.hid ho
    have Hf := Lib.hid hf
    clear ho hf
    by_cases hlt : j < n
    · obtain ⟨g, rfl⟩ := Ho.out.form0 (by omega)
      have hjx : j < xs.length := by rw [Hl.out]; exact hlt
      have hle := szL_take_le (sz := smFrmChunk) (xs := xs) (j + 1)
      have hsu := szL_take_succ (sz := smFrmChunk) hjx
      have hb0 := Hs.out
      have hq : k + szL smFrmChunk (xs.take j) + smFrmChunk xs[j] ≤ 4294967296 := by omega
      have Hsu := Lib.hid hsu
      clear hle hsu hb0
      obtain ⟨f', cs, pre, post, hjl, hE, hr, hpl, hcl, hgf, hfn, hfb, hgb, close⟩ := Ho.out.focus EFrmChunk.framed EFrmChunk.inside Hnd.out hlt
      have hget : (mkL mkFrmChunk smFrmChunk k (xs.take j) ++ xs.drop j)[j] = xs[j] := by
        have h1 := mkL_mid (mk := mkFrmChunk) (sz := smFrmChunk) (k := k) hjx
        rw [List.getElem?_eq_getElem hjl] at h1
        injection h1
      rw [hget] at hE
      have Hset := Lib.hid (mkL_set (mk := mkFrmChunk) (sz := smFrmChunk) (k := k) hjx)
      have hsm : smFrmChunk xs[j] = 8 + szL smFrmGap xs[j].xGaps + xs[j].xDoubles.length + xs[j].xBody.length := rfl
      rw [hsm] at hq
      obtain ⟨q, hqe⟩ : ∃ q : Int, q = k + szL smFrmChunk (xs.take j) := ⟨_, rfl⟩
      have hq0 : 0 ≤ q := by omega
      rw [← hqe] at hq Hset ⊢
      have Hqe := Lib.hid hqe
      clear hqe hsm hget
      obtain ⟨v8, v9, v10, f8, f9, f10, rfl, h8, h9, h10, rfl⟩ := hE
      skip
      have FC := Lib.hid (show Foc 189 11 g n c j pre post wr [.int .i64 xs[j].xKind, .int .i64 xs[j].xFlags, .int .i64 xs[j].xTag, .int .i64 xs[j].xTsn, .int .i64 xs[j].xStream, .int .i64 xs[j].xSsn, .int .i64 xs[j].xWindow, .int .i64 xs[j].xCause, v8, v9, v10] from ⟨hr, hpl, rfl, hlt⟩)
      have Hc := Lib.hid (show ∀ w' cs' x', Foc 189 11 g n c j pre post w' cs' → FrL (g :: (f8 ++ f9 ++ f10)) wr w' → EFrmChunk w' (f8 ++ f9 ++ f10) cs' x' → _ from fun w' cs' x' h => close w' cs' x' h.row h.m)
      have HF := Lib.hid (FrL.refl (g :: (f8 ++ f9 ++ f10)) wr)
      simp only [List.nodup_append, List.mem_append, not_or] at hgf hfn
      have G8 := Lib.hid (show g ∉ f8 by simp_all)
      have O8 := Lib.hid h8
      have G9 := Lib.hid (show g ∉ f9 by simp_all)
      have O9 := Lib.hid h9
      have G10 := Lib.hid (show g ∉ f10 by simp_all)
      have O10 := Lib.hid h10
      have D8_9 := Lib.hid (show ∀ b ∈ f8, b ∉ f9 by intro b h1 h2; grind)
      have D8_10 := Lib.hid (show ∀ b ∈ f8, b ∉ f10 by intro b h1 h2; grind)
      have D9_8 := Lib.hid (show ∀ b ∈ f9, b ∉ f8 by intro b h1 h2; grind)
      have D9_10 := Lib.hid (show ∀ b ∈ f9, b ∉ f10 by intro b h1 h2; grind)
      have D10_8 := Lib.hid (show ∀ b ∈ f10, b ∉ f8 by intro b h1 h2; grind)
      have D10_9 := Lib.hid (show ∀ b ∈ f10, b ∉ f9 by intro b h1 h2; grind)
      have N8 := Lib.hid (show f8.Nodup by grind)
      have Hfb := Lib.hid hfb
      have Hgb := Lib.hid hgb
      clear hr hpl hcl close hgf hfn hfb hgb h8 h9 h10
      have c0 := FC.out.at0 rfl
      have z0 := FC.out.frozen (j * 11)
      have c1 := FC.out.at (i := 1) rfl
      have z1 := FC.out.frozen (j * 11 + 1)
      have c2 := FC.out.at (i := 2) rfl
      have z2 := FC.out.frozen (j * 11 + 2)
      have c3 := FC.out.at (i := 3) rfl
      have z3 := FC.out.frozen (j * 11 + 3)
      have c4 := FC.out.at (i := 4) rfl
      have z4 := FC.out.frozen (j * 11 + 4)
      have c5 := FC.out.at (i := 5) rfl
      have z5 := FC.out.frozen (j * 11 + 5)
      have c6 := FC.out.at (i := 6) rfl
      have z6 := FC.out.frozen (j * 11 + 6)
      have c7 := FC.out.at (i := 7) rfl
      have z7 := FC.out.frozen (j * 11 + 7)
      have c8 := FC.out.at (i := 8) rfl
      have z8 := FC.out.frozen (j * 11 + 8)
      have c9 := FC.out.at (i := 9) rfl
      have z9 := FC.out.frozen (j * 11 + 9)
      have c10 := FC.out.at (i := 10) rfl
      have z10 := FC.out.frozen (j * 11 + 10)
      go_wp2_with fail
      refine (markFrmGapS_m f8 _ _ xs[j].xGaps _ (by repeat first | with_reducible exact O8.out | with_reducible refine OwFrmGapS.set_FrmChunk ?_ G8.out) N8.out (by omega) (by omega)).mono ?_
      rintro e w8' ⟨rfl, o8, r8⟩
      have FC := Lib.hid (Foc.frl (e := 189) (m := 11) (g := g) (n := n) (c := c) (j := j) (pre := pre) (post := post) (by repeat first | with_reducible exact FC.out | (with_reducible refine' Foc.set ?_ (by decide); rotate_left) | (with_reducible refine' Foc.set0 ?_ (by decide); rotate_left) | (with_reducible refine' Foc.set2 ?_ (by decide); rotate_left)) r8 G8.out)
      try simp only [Nat.reduceAdd, List.set_cons_zero, List.set_cons_succ] at FC
      have O9 := Lib.hid (OwIn.frl (v := v9) (xs := xs[j].xDoubles) (by repeat first | with_reducible exact O9.out | with_reducible refine OwIn.set ?_ G9.out) r8 D9_8.out)
      have O10 := Lib.hid (OwBy.frl (v := v10) (xs := xs[j].xBody) (by repeat first | with_reducible exact O10.out | with_reducible refine OwBy.set ?_ G10.out) r8 D10_8.out)
      have O8 := Lib.hid o8
      have HF := Lib.hid (FrL.trans (bs := g :: (f8 ++ f9 ++ f10)) (a := wr) (by repeat first | with_reducible exact HF.out | with_reducible refine FrL.set ?_ _ (by simp)) (r8.mono (by intro b hb; simp [hb])))
      clear o8 r8 c0 z0 c1 z1 c2 z2 c3 z3 c4 z4 c5 z5 c6 z6 c7 z7 c8 z8 c9 z9 c10 z10
      have c0 := FC.out.at0 rfl
      have z0 := FC.out.frozen (j * 11)
      have c1 := FC.out.at (i := 1) rfl
      have z1 := FC.out.frozen (j * 11 + 1)
      have c2 := FC.out.at (i := 2) rfl
      have z2 := FC.out.frozen (j * 11 + 2)
      have c3 := FC.out.at (i := 3) rfl
      have z3 := FC.out.frozen (j * 11 + 3)
      have c4 := FC.out.at (i := 4) rfl
      have z4 := FC.out.frozen (j * 11 + 4)
      have c5 := FC.out.at (i := 5) rfl
      have z5 := FC.out.frozen (j * 11 + 5)
      have c6 := FC.out.at (i := 6) rfl
      have z6 := FC.out.frozen (j * 11 + 6)
      have c7 := FC.out.at (i := 7) rfl
      have z7 := FC.out.frozen (j * 11 + 7)
      have c8 := FC.out.at (i := 8) rfl
      have z8 := FC.out.frozen (j * 11 + 8)
      have c9 := FC.out.at (i := 9) rfl
      have z9 := FC.out.frozen (j * 11 + 9)
      have c10 := FC.out.at (i := 10) rfl
      have z10 := FC.out.frozen (j * 11 + 10)
      go_wp2_with fail
      refine (markIntS_m f9 _ _ xs[j].xDoubles _ (by repeat first | with_reducible exact O9.out | with_reducible refine OwIn.set ?_ G9.out) (by omega) ⟨by omega, by omega⟩).mono ?_
      rintro e w9' ⟨rfl, o9, r9⟩
      have FC := Lib.hid (Foc.frl (e := 189) (m := 11) (g := g) (n := n) (c := c) (j := j) (pre := pre) (post := post) (by repeat first | with_reducible exact FC.out | (with_reducible refine' Foc.set ?_ (by decide); rotate_left) | (with_reducible refine' Foc.set0 ?_ (by decide); rotate_left) | (with_reducible refine' Foc.set2 ?_ (by decide); rotate_left)) r9 G9.out)
      try simp only [Nat.reduceAdd, List.set_cons_zero, List.set_cons_succ] at FC
      have O8 := Lib.hid (OwFrmGapS.frl_FrmChunk (v := v8) (by repeat first | with_reducible exact O8.out | with_reducible refine' OwFrmGapS.set_FrmChunk ?_ G8.out) r9 D8_9.out)
      have O10 := Lib.hid (OwBy.frl (v := v10) (xs := xs[j].xBody) (by repeat first | with_reducible exact O10.out | with_reducible refine OwBy.set ?_ G10.out) r9 D10_9.out)
      have O9 := Lib.hid o9
      have HF := Lib.hid (FrL.trans (bs := g :: (f8 ++ f9 ++ f10)) (a := wr) (by repeat first | with_reducible exact HF.out | with_reducible refine FrL.set ?_ _ (by simp)) (r9.mono (by intro b hb; simp [hb])))
      clear o9 r9 c0 z0 c1 z1 c2 z2 c3 z3 c4 z4 c5 z5 c6 z6 c7 z7 c8 z8 c9 z9 c10 z10
      have c0 := FC.out.at0 rfl
      have z0 := FC.out.frozen (j * 11)
      have c1 := FC.out.at (i := 1) rfl
      have z1 := FC.out.frozen (j * 11 + 1)
      have c2 := FC.out.at (i := 2) rfl
      have z2 := FC.out.frozen (j * 11 + 2)
      have c3 := FC.out.at (i := 3) rfl
      have z3 := FC.out.frozen (j * 11 + 3)
      have c4 := FC.out.at (i := 4) rfl
      have z4 := FC.out.frozen (j * 11 + 4)
      have c5 := FC.out.at (i := 5) rfl
      have z5 := FC.out.frozen (j * 11 + 5)
      have c6 := FC.out.at (i := 6) rfl
      have z6 := FC.out.frozen (j * 11 + 6)
      have c7 := FC.out.at (i := 7) rfl
      have z7 := FC.out.frozen (j * 11 + 7)
      have c8 := FC.out.at (i := 8) rfl
      have z8 := FC.out.frozen (j * 11 + 8)
      have c9 := FC.out.at (i := 9) rfl
      have z9 := FC.out.frozen (j * 11 + 9)
      have c10 := FC.out.at (i := 10) rfl
      have z10 := FC.out.frozen (j * 11 + 10)
      go_wp2_with fail
      refine (markByteS_m f10 _ _ xs[j].xBody _ (by repeat first | with_reducible exact O10.out | with_reducible refine OwBy.set ?_ G10.out) (by omega) ⟨by omega, by omega⟩).mono ?_
      rintro e w10' ⟨rfl, o10, r10⟩
      have FC := Lib.hid (Foc.frl (e := 189) (m := 11) (g := g) (n := n) (c := c) (j := j) (pre := pre) (post := post) (by repeat first | with_reducible exact FC.out | (with_reducible refine' Foc.set ?_ (by decide); rotate_left) | (with_reducible refine' Foc.set0 ?_ (by decide); rotate_left) | (with_reducible refine' Foc.set2 ?_ (by decide); rotate_left)) r10 G10.out)
      try simp only [Nat.reduceAdd, List.set_cons_zero, List.set_cons_succ] at FC
      have O8 := Lib.hid (OwFrmGapS.frl_FrmChunk (v := v8) (by repeat first | with_reducible exact O8.out | with_reducible refine' OwFrmGapS.set_FrmChunk ?_ G8.out) r10 D8_10.out)
      have O9 := Lib.hid (OwIn.frl (v := v9) (by repeat first | with_reducible exact O9.out | with_reducible refine' OwIn.set ?_ G9.out) r10 D9_10.out)
      have O10 := Lib.hid o10
      have HF := Lib.hid (FrL.trans (bs := g :: (f8 ++ f9 ++ f10)) (a := wr) (by repeat first | with_reducible exact HF.out | with_reducible refine FrL.set ?_ _ (by simp)) (r10.mono (by intro b hb; simp [hb])))
      clear o10 r10 c0 z0 c1 z1 c2 z2 c3 z3 c4 z4 c5 z5 c6 z6 c7 z7 c8 z8 c9 z9 c10 z10
      have c0 := FC.out.at0 rfl
      have z0 := FC.out.frozen (j * 11)
      have c1 := FC.out.at (i := 1) rfl
      have z1 := FC.out.frozen (j * 11 + 1)
      have c2 := FC.out.at (i := 2) rfl
      have z2 := FC.out.frozen (j * 11 + 2)
      have c3 := FC.out.at (i := 3) rfl
      have z3 := FC.out.frozen (j * 11 + 3)
      have c4 := FC.out.at (i := 4) rfl
      have z4 := FC.out.frozen (j * 11 + 4)
      have c5 := FC.out.at (i := 5) rfl
      have z5 := FC.out.frozen (j * 11 + 5)
      have c6 := FC.out.at (i := 6) rfl
      have z6 := FC.out.frozen (j * 11 + 6)
      have c7 := FC.out.at (i := 7) rfl
      have z7 := FC.out.frozen (j * 11 + 7)
      have c8 := FC.out.at (i := 8) rfl
      have z8 := FC.out.frozen (j * 11 + 8)
      have c9 := FC.out.at (i := 9) rfl
      have z9 := FC.out.frozen (j * 11 + 9)
      have c10 := FC.out.at (i := 10) rfl
      have z10 := FC.out.frozen (j * 11 + 10)
      go_wp2
      refine ⟨⟨j + 1, by omega, by go_num, congrArg _ (by rw [Hsu.out]; have h1 := Hqe.out; simp only [smFrmChunk]; omega), ?_, ?_⟩, by simp [intOf]; omega⟩
      · rw [← Hset.out]
        refine Hc.out _ _ _ (by repeat first | with_reducible exact FC.out | (with_reducible refine' Foc.set ?_ (by decide); rotate_left) | (with_reducible refine' Foc.set0 ?_ (by decide); rotate_left) | (with_reducible refine' Foc.set2 ?_ (by decide); rotate_left)) (by repeat first | with_reducible exact HF.out | with_reducible refine FrL.set ?_ _ (by simp)) ?_
        refine ⟨v8, v9, v10, f8, f9, f10, ?_, ?_, ?_, ?_, rfl⟩
        · simp only [Nat.reduceAdd, List.set_cons_zero, List.set_cons_succ, mkFrmChunk, List.cons.injEq, Value.int.injEq, Value.bool.injEq, true_and, and_true]; try (and_intros <;> first | rfl | omega | (congr 2; omega) | (congr 1; omega))
        · simp only [mkFrmChunk]
          exact (by repeat first | with_reducible exact O8.out | with_reducible refine OwFrmGapS.set_FrmChunk ?_ G8.out)
        · simp only [mkFrmChunk]
          exact (by repeat first | with_reducible exact O9.out | with_reducible refine OwIn.set ?_ G9.out)
        · simp only [mkFrmChunk]
          exact (by repeat first | with_reducible exact O10.out | with_reducible refine OwBy.set ?_ G10.out)
      · exact Hf.out.trans (FrL.mono (bs := g :: (f8 ++ f9 ++ f10)) (by repeat first | with_reducible exact HF.out | with_reducible refine FrL.set ?_ _ (by simp)) (by intro b hb; exact (List.mem_cons.1 hb).elim (fun h => h ▸ Hgb.out) (fun h => Hfb.out b h)))
    · have : j = n := by omega
      subst this
      have ho := Ho.out
      rw [List.take_of_length_le (by rw [Hl.out]; omega), List.drop_of_length_le (by rw [Hl.out]; omega), List.append_nil] at ho
      have Hx := Lib.hid (List.take_of_length_le (l := xs) (i := j) (by rw [Hl.out]; omega))
      go_wp2
      go_ret
      exact ⟨retI (by rw [Hx.out]), ho, Hf.out⟩

set_option maxRecDepth 100000 in
set_option maxHeartbeats 4000000 in
theorem heldFrmChunkS_h (v : Value) (k : Int) (xs : List DFrmChunk) (w : World) (hv : RdFrmChunkS w v (mkL mkFrmChunk smFrmChunk k xs)) (hk : 0 ≤ k) (hs : k + szL smFrmChunk xs ≤ 4294967296) :
    Calls Try.prog 158 #[v, .int .i64 k] w fun e w' => e = .returned (.int .i64 (k + szL smFrmChunk xs)) ∧ Below w.heap.size w w' := by
  obtain ⟨A, c, rfl⟩ := RdS.slice hv
  have hcv := RdS.cap hv
  have Hv := Lib.hid hv
  clear hv
  have Hs := Lib.hid hs
  clear hs
  generalize hl : (mkL mkFrmChunk smFrmChunk k xs).length = n at *
  have Hl := Lib.hid (hl.symm.trans (mkL_len k xs)).symm
  clear hl
  go_enter Try.func158, Try.ntmps158
  go_wp2
  go_loopw [1, 5] (fun q i w2 => ∃ j : Nat, j ≤ n ∧ i = .int .i64 j ∧ q = .int .i64 (k + szL smFrmChunk (xs.take j)) ∧ Below w.heap.size w w2) (fun _ i _ => n - (intOf i).toNat)
  case atStart => exact ⟨0, by omega, rfl, by simp [szL], Below.refl _ _⟩
  case round =>
    obtain ⟨j, hj, rfl, rfl, hb⟩ := hrel
    have HB := Lib.hid hb
    clear hb
    by_cases hlt : j < n
    · have hjx : j < xs.length := by rw [Hl.out]; exact hlt
      have hle := szL_take_le (sz := smFrmChunk) (xs := xs) (j + 1)
      have hsu := szL_take_succ (sz := smFrmChunk) hjx
      have hb0 := Hs.out
      have hq : k + szL smFrmChunk (xs.take j) + smFrmChunk xs[j] ≤ 4294967296 := by omega
      have Hsu := Lib.hid hsu
      clear hle hsu hb0
      obtain ⟨ad, cs, hk2, rfl, hcl, hca, hE⟩ := RdS.at_ (Hv.out.below HB.out) hlt
      have hget : (mkL mkFrmChunk smFrmChunk k xs)[j] = mkFrmChunk (k + szL smFrmChunk (xs.take j)) xs[j] := by
        have h1 := mkL_get (mk := mkFrmChunk) (sz := smFrmChunk) (k := k) hjx
        rw [List.getElem?_eq_getElem hk2] at h1
        injection h1
      rw [hget] at hE
      have hsm : smFrmChunk xs[j] = 8 + szL smFrmGap xs[j].xGaps + xs[j].xDoubles.length + xs[j].xBody.length := rfl
      rw [hsm] at hq
      obtain ⟨q, hqe⟩ : ∃ q : Int, q = k + szL smFrmChunk (xs.take j) := ⟨_, rfl⟩
      have hq0 : 0 ≤ q := by omega
      rw [← hqe] at hq hE ⊢
      have Hqe := Lib.hid hqe
      clear hqe hsm hget
      obtain ⟨v8, v9, v10, rfl, h8, h9, h10⟩ := hE
      simp only [mkFrmChunk] at hca h8 h9 h10
      have H8 := Lib.hid h8
      clear h8
      have H9 := Lib.hid h9
      clear h9
      have H10 := Lib.hid h10
      clear h10
      have HC := Lib.hid hca
      have c0 := hca.c0
      have c1 := hca.ci 0 rfl
      have c2 := hca.ci 1 rfl
      have c3 := hca.ci 2 rfl
      have c4 := hca.ci 3 rfl
      have c5 := hca.ci 4 rfl
      have c6 := hca.ci 5 rfl
      have c7 := hca.ci 6 rfl
      have c8 := hca.ci 7 rfl
      have c9 := hca.ci 8 rfl
      have c10 := hca.ci 9 rfl
      clear hca hcl
      go_wp2_with fail
      refine (heldFrmGapS_h _ _ xs[j].xGaps _ (by first | exact H8.out | (have hh := H8.out; refine Eq.mp (congrArg _ ?_) hh; congr 1; omega)) (by omega) (by omega)).mono ?_
      rintro e w8' ⟨rfl, b8⟩
      have HC := Lib.hid (HC.out.below b8)
      have H9 := Lib.hid (H9.out.below b8)
      have H10 := Lib.hid (H10.out.below b8)
      have HB := Lib.hid (HB.out.trans (b8.mono HB.out.size))
      clear b8 c0 c1 c2 c3 c4 c5 c6 c7 c8 c9 c10
      have c0 := HC.out.c0
      have c1 := HC.out.ci 0 rfl
      have c2 := HC.out.ci 1 rfl
      have c3 := HC.out.ci 2 rfl
      have c4 := HC.out.ci 3 rfl
      have c5 := HC.out.ci 4 rfl
      have c6 := HC.out.ci 5 rfl
      have c7 := HC.out.ci 6 rfl
      have c8 := HC.out.ci 7 rfl
      have c9 := HC.out.ci 8 rfl
      have c10 := HC.out.ci 9 rfl
      go_wp2_with fail
      refine (heldIntS_h _ _ _ _ (by first | exact H9.out | (have hh := H9.out; refine Eq.mp (congrArg _ ?_) hh; congr 1; omega)) (by omega) ⟨by omega, by omega⟩).mono ?_
      rintro e w9' ⟨rfl, b9⟩
      have HC := Lib.hid (HC.out.below b9)
      have H10 := Lib.hid (H10.out.below b9)
      have HB := Lib.hid (HB.out.trans (b9.mono HB.out.size))
      clear b9 c0 c1 c2 c3 c4 c5 c6 c7 c8 c9 c10
      have c0 := HC.out.c0
      have c1 := HC.out.ci 0 rfl
      have c2 := HC.out.ci 1 rfl
      have c3 := HC.out.ci 2 rfl
      have c4 := HC.out.ci 3 rfl
      have c5 := HC.out.ci 4 rfl
      have c6 := HC.out.ci 5 rfl
      have c7 := HC.out.ci 6 rfl
      have c8 := HC.out.ci 7 rfl
      have c9 := HC.out.ci 8 rfl
      have c10 := HC.out.ci 9 rfl
      go_wp2_with fail
      refine (heldByteS_h _ _ _ _ (by first | exact H10.out | (have hh := H10.out; refine Eq.mp (congrArg _ ?_) hh; congr 1; omega)) (by omega) ⟨by omega, by omega⟩).mono ?_
      rintro e w10' ⟨rfl, b10⟩
      have HC := Lib.hid (HC.out.below b10)
      have HB := Lib.hid (HB.out.trans (b10.mono HB.out.size))
      clear b10 c0 c1 c2 c3 c4 c5 c6 c7 c8 c9 c10
      have c0 := HC.out.c0
      have c1 := HC.out.ci 0 rfl
      have c2 := HC.out.ci 1 rfl
      have c3 := HC.out.ci 2 rfl
      have c4 := HC.out.ci 3 rfl
      have c5 := HC.out.ci 4 rfl
      have c6 := HC.out.ci 5 rfl
      have c7 := HC.out.ci 6 rfl
      have c8 := HC.out.ci 7 rfl
      have c9 := HC.out.ci 8 rfl
      have c10 := HC.out.ci 9 rfl
      go_wp2
      exact ⟨⟨j + 1, by omega, by go_num, congrArg _ (by rw [Hsu.out]; have h1 := Hqe.out; simp only [smFrmChunk]; omega), HB.out⟩, by simp [intOf]; omega⟩
    · have : j = n := by omega
      subst this
      have Hx := Lib.hid (List.take_of_length_le (l := xs) (i := j) (by rw [Hl.out]; omega))
      go_wp2
      go_ret
      exact ⟨retI (by rw [Hx.out]), HB.out⟩
end Go.Proofs.Ythdjjgbjemaabaa
