/-
  Marks of AspGate, and of lists of it. (Written by wip/tools/genmark.py.)
-/
import Derived.Test.YthdjjgbjemaabaaTyAspGate
import Derived.Test.YthdjjgbjemaabaaMark
namespace Go.Proofs.Ythdjjgbjemaabaa
open Go.ChangeShapes Go.WideShapes Go.ChangeAt Go.RowKit
set_option linter.unusedVariables false
set_option linter.unusedSimpArgs false

def mkAspGate (k : Int) (x : DAspGate) : DAspGate := { xGate := k, xUp := (k + 1) % 3 == 0, xActive := marksI (k + 1 + 1) x.xActive.length, xAsked := marksI (k + 1 + 1 + ((x.xActive.length : Nat) : Int)) x.xAsked.length, xOff := marksI (k + 1 + 1 + ((x.xActive.length : Nat) : Int) + ((x.xAsked.length : Nat) : Int)) x.xOff.length, xJam := k + 1 + 1 + ((x.xActive.length : Nat) : Int) + ((x.xAsked.length : Nat) : Int) + ((x.xOff.length : Nat) : Int) : DAspGate }
def smAspGate (x : DAspGate) : Nat := 3 + x.xActive.length + x.xAsked.length + x.xOff.length

set_option maxRecDepth 100000 in
set_option maxHeartbeats 4000000 in
theorem markAspGateS_m (f : List Nat) (v : Value) (k : Int) (xs : List DAspGate) (w : World) (hv : OwAspGateS w f v xs) (hnd : f.Nodup) (hk : 0 ≤ k) (hs : k + szL smAspGate xs ≤ 4294967296) :
    Calls Try.prog 115 #[v, .int .i64 k] w fun e w' => e = .returned (.int .i64 (k + szL smAspGate xs)) ∧ OwAspGateS w' f v (mkL mkAspGate smAspGate k xs) ∧ FrL f w w' := by
  unfold OwAspGateS at *
  obtain ⟨A, c, rfl⟩ := hv.slice
  have hcv := RdS.cap (hv.rd (fun _ _ _ h => EAspGate.rd h))
  have Hv := Lib.hid hv
  have Hnd := Lib.hid hnd
  clear hv hnd
  generalize hl : xs.length = n at *
  have Hl := Lib.hid hl
  clear hl
  have Hs := Lib.hid hs
  clear hs
  go_enter Try.func115, Try.ntmps115
  go_wp2
  go_loopw [1, 5] (fun q i w2 => ∃ j : Nat, j ≤ n ∧ i = .int .i64 j ∧ q = .int .i64 (k + szL smAspGate (xs.take j)) ∧ OwL 153 6 EAspGate w2 f (.slice A n c) (mkL mkAspGate smAspGate k (xs.take j) ++ xs.drop j) ∧ FrL f w w2) (fun _ i _ => n - (intOf i).toNat)
  case atStart => exact ⟨0, by omega, rfl, by simp [szL], by simpa [mkL] using Hv.out, FrL.refl _ _⟩
  case round =>
    obtain ⟨j, hj, rfl, rfl, ho, hf⟩ := hrel
    have Ho := Lib.hid ho
    have Hf := Lib.hid hf
    clear ho hf
    by_cases hlt : j < n
    · obtain ⟨g, rfl⟩ := Ho.out.form0 (by omega)
      have hjx : j < xs.length := by rw [Hl.out]; exact hlt
      have hle := szL_take_le (sz := smAspGate) (xs := xs) (j + 1)
      have hsu := szL_take_succ (sz := smAspGate) hjx
      have hb0 := Hs.out
      have hq : k + szL smAspGate (xs.take j) + smAspGate xs[j] ≤ 4294967296 := by omega
      have Hsu := Lib.hid hsu
      clear hle hsu hb0
      obtain ⟨f', cs, pre, post, hjl, hE, hr, hpl, hcl, hgf, hfn, hfb, hgb, close⟩ := Ho.out.focus EAspGate.framed EAspGate.inside Hnd.out hlt
      have hget : (mkL mkAspGate smAspGate k (xs.take j) ++ xs.drop j)[j] = xs[j] := by
        have h1 := mkL_mid (mk := mkAspGate) (sz := smAspGate) (k := k) hjx
        rw [List.getElem?_eq_getElem hjl] at h1
        injection h1
      rw [hget] at hE
      have Hset := Lib.hid (mkL_set (mk := mkAspGate) (sz := smAspGate) (k := k) hjx)
      have hsm : smAspGate xs[j] = 3 + xs[j].xActive.length + xs[j].xAsked.length + xs[j].xOff.length := rfl
      rw [hsm] at hq
      obtain ⟨q, hqe⟩ : ∃ q : Int, q = k + szL smAspGate (xs.take j) := ⟨_, rfl⟩
      have hq0 : 0 ≤ q := by omega
      rw [← hqe] at hq Hset ⊢
      have Hqe := Lib.hid hqe
      clear hqe hsm hget
      obtain ⟨v2, v3, v4, f2, f3, f4, rfl, h2, h3, h4, rfl⟩ := hE
      skip
      have FC := Lib.hid (show Foc 153 6 g n c j pre post wr [.int .i64 xs[j].xGate, .bool xs[j].xUp, v2, v3, v4, .int .i64 xs[j].xJam] from ⟨hr, hpl, rfl, hlt⟩)
      have Hc := Lib.hid (show ∀ w' cs' x', Foc 153 6 g n c j pre post w' cs' → FrL (g :: (f2 ++ f3 ++ f4)) wr w' → EAspGate w' (f2 ++ f3 ++ f4) cs' x' → _ from fun w' cs' x' h => close w' cs' x' h.row h.m)
      have HF := Lib.hid (FrL.refl (g :: (f2 ++ f3 ++ f4)) wr)
      simp only [List.nodup_append, List.mem_append, not_or] at hgf hfn
      have G2 := Lib.hid (show g ∉ f2 by simp_all)
      have O2 := Lib.hid h2
      have G3 := Lib.hid (show g ∉ f3 by simp_all)
      have O3 := Lib.hid h3
      have G4 := Lib.hid (show g ∉ f4 by simp_all)
      have O4 := Lib.hid h4
      have D2_3 := Lib.hid (show ∀ b ∈ f2, b ∉ f3 by intro b h1 h2; grind)
      have D2_4 := Lib.hid (show ∀ b ∈ f2, b ∉ f4 by intro b h1 h2; grind)
      have D3_2 := Lib.hid (show ∀ b ∈ f3, b ∉ f2 by intro b h1 h2; grind)
      have D3_4 := Lib.hid (show ∀ b ∈ f3, b ∉ f4 by intro b h1 h2; grind)
      have D4_2 := Lib.hid (show ∀ b ∈ f4, b ∉ f2 by intro b h1 h2; grind)
      have D4_3 := Lib.hid (show ∀ b ∈ f4, b ∉ f3 by intro b h1 h2; grind)
      have Hfb := Lib.hid hfb
      have Hgb := Lib.hid hgb
      clear hr hpl hcl close hgf hfn hfb hgb h2 h3 h4
      have c0 := FC.out.at0 rfl
      have z0 := FC.out.frozen (j * 6)
      have c1 := FC.out.at (i := 1) rfl
      have z1 := FC.out.frozen (j * 6 + 1)
      have c2 := FC.out.at (i := 2) rfl
      have z2 := FC.out.frozen (j * 6 + 2)
      have c3 := FC.out.at (i := 3) rfl
      have z3 := FC.out.frozen (j * 6 + 3)
      have c4 := FC.out.at (i := 4) rfl
      have z4 := FC.out.frozen (j * 6 + 4)
      have c5 := FC.out.at (i := 5) rfl
      have z5 := FC.out.frozen (j * 6 + 5)
      go_wp2_with fail
      refine (markIntS_m f2 _ _ xs[j].xActive _ (by repeat first | with_reducible exact O2.out | with_reducible refine OwIn.set ?_ G2.out) (by omega) ⟨by omega, by omega⟩).mono ?_
      rintro e w2' ⟨rfl, o2, r2⟩
      have FC := Lib.hid (Foc.frl (e := 153) (m := 6) (g := g) (n := n) (c := c) (j := j) (pre := pre) (post := post) (by repeat first | with_reducible exact FC.out | (with_reducible refine' Foc.set ?_ (by decide); rotate_left) | (with_reducible refine' Foc.set0 ?_ (by decide); rotate_left) | (with_reducible refine' Foc.set2 ?_ (by decide); rotate_left)) r2 G2.out)
      try simp only [Nat.reduceAdd, List.set_cons_zero, List.set_cons_succ] at FC
      have O3 := Lib.hid (OwIn.frl (v := v3) (xs := xs[j].xAsked) (by repeat first | with_reducible exact O3.out | with_reducible refine OwIn.set ?_ G3.out) r2 D3_2.out)
      have O4 := Lib.hid (OwIn.frl (v := v4) (xs := xs[j].xOff) (by repeat first | with_reducible exact O4.out | with_reducible refine OwIn.set ?_ G4.out) r2 D4_2.out)
      have O2 := Lib.hid o2
      have HF := Lib.hid (FrL.trans (bs := g :: (f2 ++ f3 ++ f4)) (a := wr) (by repeat first | with_reducible exact HF.out | with_reducible refine FrL.set ?_ _ (by simp)) (r2.mono (by intro b hb; simp [hb])))
      clear o2 r2 c0 z0 c1 z1 c2 z2 c3 z3 c4 z4 c5 z5
      have c0 := FC.out.at0 rfl
      have z0 := FC.out.frozen (j * 6)
      have c1 := FC.out.at (i := 1) rfl
      have z1 := FC.out.frozen (j * 6 + 1)
      have c2 := FC.out.at (i := 2) rfl
      have z2 := FC.out.frozen (j * 6 + 2)
      have c3 := FC.out.at (i := 3) rfl
      have z3 := FC.out.frozen (j * 6 + 3)
      have c4 := FC.out.at (i := 4) rfl
      have z4 := FC.out.frozen (j * 6 + 4)
      have c5 := FC.out.at (i := 5) rfl
      have z5 := FC.out.frozen (j * 6 + 5)
      go_wp2_with fail
      refine (markIntS_m f3 _ _ xs[j].xAsked _ (by repeat first | with_reducible exact O3.out | with_reducible refine OwIn.set ?_ G3.out) (by omega) ⟨by omega, by omega⟩).mono ?_
      rintro e w3' ⟨rfl, o3, r3⟩
      have FC := Lib.hid (Foc.frl (e := 153) (m := 6) (g := g) (n := n) (c := c) (j := j) (pre := pre) (post := post) (by repeat first | with_reducible exact FC.out | (with_reducible refine' Foc.set ?_ (by decide); rotate_left) | (with_reducible refine' Foc.set0 ?_ (by decide); rotate_left) | (with_reducible refine' Foc.set2 ?_ (by decide); rotate_left)) r3 G3.out)
      try simp only [Nat.reduceAdd, List.set_cons_zero, List.set_cons_succ] at FC
      have O2 := Lib.hid (OwIn.frl (v := v2) (by repeat first | with_reducible exact O2.out | with_reducible refine' OwIn.set ?_ G2.out) r3 D2_3.out)
      have O4 := Lib.hid (OwIn.frl (v := v4) (xs := xs[j].xOff) (by repeat first | with_reducible exact O4.out | with_reducible refine OwIn.set ?_ G4.out) r3 D4_3.out)
      have O3 := Lib.hid o3
      have HF := Lib.hid (FrL.trans (bs := g :: (f2 ++ f3 ++ f4)) (a := wr) (by repeat first | with_reducible exact HF.out | with_reducible refine FrL.set ?_ _ (by simp)) (r3.mono (by intro b hb; simp [hb])))
      clear o3 r3 c0 z0 c1 z1 c2 z2 c3 z3 c4 z4 c5 z5
      have c0 := FC.out.at0 rfl
      have z0 := FC.out.frozen (j * 6)
      have c1 := FC.out.at (i := 1) rfl
      have z1 := FC.out.frozen (j * 6 + 1)
      have c2 := FC.out.at (i := 2) rfl
      have z2 := FC.out.frozen (j * 6 + 2)
      have c3 := FC.out.at (i := 3) rfl
      have z3 := FC.out.frozen (j * 6 + 3)
      have c4 := FC.out.at (i := 4) rfl
      have z4 := FC.out.frozen (j * 6 + 4)
      have c5 := FC.out.at (i := 5) rfl
      have z5 := FC.out.frozen (j * 6 + 5)
      go_wp2_with fail
      refine (markIntS_m f4 _ _ xs[j].xOff _ (by repeat first | with_reducible exact O4.out | with_reducible refine OwIn.set ?_ G4.out) (by omega) ⟨by omega, by omega⟩).mono ?_
      rintro e w4' ⟨rfl, o4, r4⟩
      have FC := Lib.hid (Foc.frl (e := 153) (m := 6) (g := g) (n := n) (c := c) (j := j) (pre := pre) (post := post) (by repeat first | with_reducible exact FC.out | (with_reducible refine' Foc.set ?_ (by decide); rotate_left) | (with_reducible refine' Foc.set0 ?_ (by decide); rotate_left) | (with_reducible refine' Foc.set2 ?_ (by decide); rotate_left)) r4 G4.out)
      try simp only [Nat.reduceAdd, List.set_cons_zero, List.set_cons_succ] at FC
      have O2 := Lib.hid (OwIn.frl (v := v2) (by repeat first | with_reducible exact O2.out | with_reducible refine' OwIn.set ?_ G2.out) r4 D2_4.out)
      have O3 := Lib.hid (OwIn.frl (v := v3) (by repeat first | with_reducible exact O3.out | with_reducible refine' OwIn.set ?_ G3.out) r4 D3_4.out)
      have O4 := Lib.hid o4
      have HF := Lib.hid (FrL.trans (bs := g :: (f2 ++ f3 ++ f4)) (a := wr) (by repeat first | with_reducible exact HF.out | with_reducible refine FrL.set ?_ _ (by simp)) (r4.mono (by intro b hb; simp [hb])))
      clear o4 r4 c0 z0 c1 z1 c2 z2 c3 z3 c4 z4 c5 z5
      have c0 := FC.out.at0 rfl
      have z0 := FC.out.frozen (j * 6)
      have c1 := FC.out.at (i := 1) rfl
      have z1 := FC.out.frozen (j * 6 + 1)
      have c2 := FC.out.at (i := 2) rfl
      have z2 := FC.out.frozen (j * 6 + 2)
      have c3 := FC.out.at (i := 3) rfl
      have z3 := FC.out.frozen (j * 6 + 3)
      have c4 := FC.out.at (i := 4) rfl
      have z4 := FC.out.frozen (j * 6 + 4)
      have c5 := FC.out.at (i := 5) rfl
      have z5 := FC.out.frozen (j * 6 + 5)
      go_wp2
      refine ⟨⟨j + 1, by omega, by go_num, congrArg _ (by rw [Hsu.out]; have h1 := Hqe.out; simp only [smAspGate]; omega), ?_, ?_⟩, by simp [intOf]; omega⟩
      · rw [← Hset.out]
        refine Hc.out _ _ _ (by repeat first | with_reducible exact FC.out | (with_reducible refine' Foc.set ?_ (by decide); rotate_left) | (with_reducible refine' Foc.set0 ?_ (by decide); rotate_left) | (with_reducible refine' Foc.set2 ?_ (by decide); rotate_left)) (by repeat first | with_reducible exact HF.out | with_reducible refine FrL.set ?_ _ (by simp)) ?_
        refine ⟨v2, v3, v4, f2, f3, f4, ?_, ?_, ?_, ?_, rfl⟩
        · simp only [Nat.reduceAdd, List.set_cons_zero, List.set_cons_succ, mkAspGate, List.cons.injEq, Value.int.injEq, Value.bool.injEq, true_and, and_true]; try (and_intros <;> first | rfl | omega | (congr 2; omega) | (congr 1; omega))
        · simp only [mkAspGate]
          exact (by repeat first | with_reducible exact O2.out | with_reducible refine OwIn.set ?_ G2.out)
        · simp only [mkAspGate]
          exact (by repeat first | with_reducible exact O3.out | with_reducible refine OwIn.set ?_ G3.out)
        · simp only [mkAspGate]
          exact (by repeat first | with_reducible exact O4.out | with_reducible refine OwIn.set ?_ G4.out)
      · exact Hf.out.trans (FrL.mono (bs := g :: (f2 ++ f3 ++ f4)) (by repeat first | with_reducible exact HF.out | with_reducible refine FrL.set ?_ _ (by simp)) (by intro b hb; exact (List.mem_cons.1 hb).elim (fun h => h ▸ Hgb.out) (fun h => Hfb.out b h)))
    · have : j = n := by omega
      subst this
      have ho := Ho.out
      rw [List.take_of_length_le (by rw [Hl.out]; omega), List.drop_of_length_le (by rw [Hl.out]; omega), List.append_nil] at ho
      have Hx := Lib.hid (List.take_of_length_le (l := xs) (i := j) (by rw [Hl.out]; omega))
      go_wp2
      go_ret
      exact ⟨retI (by rw [Hx.out]), ho, Hf.out⟩

set_option maxRecDepth 100000 in
set_option maxHeartbeats 4000000 in
theorem heldAspGateS_h (v : Value) (k : Int) (xs : List DAspGate) (w : World) (hv : RdAspGateS w v (mkL mkAspGate smAspGate k xs)) (hk : 0 ≤ k) (hs : k + szL smAspGate xs ≤ 4294967296) :
    Calls Try.prog 117 #[v, .int .i64 k] w fun e w' => e = .returned (.int .i64 (k + szL smAspGate xs)) ∧ Below w.heap.size w w' := by
  obtain ⟨A, c, rfl⟩ := RdS.slice hv
  have hcv := RdS.cap hv
  have Hv := Lib.hid hv
  clear hv
  have Hs := Lib.hid hs
  clear hs
  generalize hl : (mkL mkAspGate smAspGate k xs).length = n at *
  have Hl := Lib.hid (hl.symm.trans (mkL_len k xs)).symm
  clear hl
  go_enter Try.func117, Try.ntmps117
  go_wp2
  go_loopw [1, 5] (fun q i w2 => ∃ j : Nat, j ≤ n ∧ i = .int .i64 j ∧ q = .int .i64 (k + szL smAspGate (xs.take j)) ∧ Below w.heap.size w w2) (fun _ i _ => n - (intOf i).toNat)
  case atStart => exact ⟨0, by omega, rfl, by simp [szL], Below.refl _ _⟩
  case round =>
    obtain ⟨j, hj, rfl, rfl, hb⟩ := hrel
    have HB := Lib.hid hb
    clear hb
    by_cases hlt : j < n
    · have hjx : j < xs.length := by rw [Hl.out]; exact hlt
      have hle := szL_take_le (sz := smAspGate) (xs := xs) (j + 1)
      have hsu := szL_take_succ (sz := smAspGate) hjx
      have hb0 := Hs.out
      have hq : k + szL smAspGate (xs.take j) + smAspGate xs[j] ≤ 4294967296 := by omega
      have Hsu := Lib.hid hsu
      clear hle hsu hb0
      obtain ⟨ad, cs, hk2, rfl, hcl, hca, hE⟩ := RdS.at_ (Hv.out.below HB.out) hlt
      have hget : (mkL mkAspGate smAspGate k xs)[j] = mkAspGate (k + szL smAspGate (xs.take j)) xs[j] := by
        have h1 := mkL_get (mk := mkAspGate) (sz := smAspGate) (k := k) hjx
        rw [List.getElem?_eq_getElem hk2] at h1
        injection h1
      rw [hget] at hE
      have hsm : smAspGate xs[j] = 3 + xs[j].xActive.length + xs[j].xAsked.length + xs[j].xOff.length := rfl
      rw [hsm] at hq
      obtain ⟨q, hqe⟩ : ∃ q : Int, q = k + szL smAspGate (xs.take j) := ⟨_, rfl⟩
      have hq0 : 0 ≤ q := by omega
      rw [← hqe] at hq hE ⊢
      have Hqe := Lib.hid hqe
      clear hqe hsm hget
      obtain ⟨v2, v3, v4, rfl, h2, h3, h4⟩ := hE
      simp only [mkAspGate] at hca h2 h3 h4
      have H2 := Lib.hid h2
      clear h2
      have H3 := Lib.hid h3
      clear h3
      have H4 := Lib.hid h4
      clear h4
      have HC := Lib.hid hca
      have c0 := hca.c0
      have c1 := hca.ci 0 rfl
      have c2 := hca.ci 1 rfl
      have c3 := hca.ci 2 rfl
      have c4 := hca.ci 3 rfl
      have c5 := hca.ci 4 rfl
      clear hca hcl
      go_wp2_with fail
      refine (heldIntS_h _ _ _ _ (by first | exact H2.out | (have hh := H2.out; refine Eq.mp (congrArg _ ?_) hh; congr 1; omega)) (by omega) ⟨by omega, by omega⟩).mono ?_
      rintro e w2' ⟨rfl, b2⟩
      have HC := Lib.hid (HC.out.below b2)
      have H3 := Lib.hid (H3.out.below b2)
      have H4 := Lib.hid (H4.out.below b2)
      have HB := Lib.hid (HB.out.trans (b2.mono HB.out.size))
      clear b2 c0 c1 c2 c3 c4 c5
      have c0 := HC.out.c0
      have c1 := HC.out.ci 0 rfl
      have c2 := HC.out.ci 1 rfl
      have c3 := HC.out.ci 2 rfl
      have c4 := HC.out.ci 3 rfl
      have c5 := HC.out.ci 4 rfl
      go_wp2_with fail
      refine (heldIntS_h _ _ _ _ (by first | exact H3.out | (have hh := H3.out; refine Eq.mp (congrArg _ ?_) hh; congr 1; omega)) (by omega) ⟨by omega, by omega⟩).mono ?_
      rintro e w3' ⟨rfl, b3⟩
      have HC := Lib.hid (HC.out.below b3)
      have H4 := Lib.hid (H4.out.below b3)
      have HB := Lib.hid (HB.out.trans (b3.mono HB.out.size))
      clear b3 c0 c1 c2 c3 c4 c5
      have c0 := HC.out.c0
      have c1 := HC.out.ci 0 rfl
      have c2 := HC.out.ci 1 rfl
      have c3 := HC.out.ci 2 rfl
      have c4 := HC.out.ci 3 rfl
      have c5 := HC.out.ci 4 rfl
      go_wp2_with fail
      refine (heldIntS_h _ _ _ _ (by first | exact H4.out | (have hh := H4.out; refine Eq.mp (congrArg _ ?_) hh; congr 1; omega)) (by omega) ⟨by omega, by omega⟩).mono ?_
      rintro e w4' ⟨rfl, b4⟩
      have HC := Lib.hid (HC.out.below b4)
      have HB := Lib.hid (HB.out.trans (b4.mono HB.out.size))
      clear b4 c0 c1 c2 c3 c4 c5
      have c0 := HC.out.c0
      have c1 := HC.out.ci 0 rfl
      have c2 := HC.out.ci 1 rfl
      have c3 := HC.out.ci 2 rfl
      have c4 := HC.out.ci 3 rfl
      have c5 := HC.out.ci 4 rfl
      go_wp2
      exact ⟨⟨j + 1, by omega, by go_num, congrArg _ (by rw [Hsu.out]; have h1 := Hqe.out; simp only [smAspGate]; omega), HB.out⟩, by simp [intOf]; omega⟩
    · have : j = n := by omega
      subst this
      have Hx := Lib.hid (List.take_of_length_le (l := xs) (i := j) (by rw [Hl.out]; omega))
      go_wp2
      go_ret
      exact ⟨retI (by rw [Hx.out]), HB.out⟩
end Go.Proofs.Ythdjjgbjemaabaa
