/-
  Marks of FrmPacket, and of lists of it. (Written by wip/tools/genmark.py.)
-/
import Derived.Test.YthdjjgbjemaabaaTyFrmPacket
import Derived.Test.YthdjjgbjemaabaaMark
import Derived.Test.YthdjjgbjemaabaaMkFrmChunk
namespace Go.Proofs.Ythdjjgbjemaabaa
open Go.ChangeShapes Go.WideShapes Go.ChangeAt Go.RowKit
set_option linter.unusedVariables false
set_option linter.unusedSimpArgs false

theorem OwFrmChunkS.set_FrmPacket {w : World} {f : List Nat} {v u : Value} {xs : List DFrmChunk} {g o : Nat} (h : OwFrmChunkS w f v xs) (hg : g ∉ f) : OwFrmChunkS (w.setCell ⟨g, o, none⟩ u) f v xs := OwL.set EFrmChunk.framed h hg
theorem OwFrmChunkS.frl_FrmPacket {w w' : World} {f cs : List Nat} {v : Value} {xs : List DFrmChunk} (h : OwFrmChunkS w f v xs) (hf : FrL cs w w') (hd : ∀ b ∈ f, b ∉ cs) : OwFrmChunkS w' f v xs := OwL.frl EFrmChunk.framed EFrmChunk.inside h hf hd
def mkFrmPacket (k : Int) (x : DFrmPacket) : DFrmPacket := { xFrom := k, xTo := k + 1, xTag := k + 1 + 1, xChunks := mkL mkFrmChunk smFrmChunk (k + 1 + 1 + 1) x.xChunks : DFrmPacket }
def smFrmPacket (x : DFrmPacket) : Nat := 3 + szL smFrmChunk x.xChunks

set_option maxRecDepth 100000 in
set_option maxHeartbeats 4000000 in
theorem markFrmPacketS_m (f : List Nat) (v : Value) (k : Int) (xs : List DFrmPacket) (w : World) (hv : OwFrmPacketS w f v xs) (hnd : f.Nodup) (hk : 0 ≤ k) (hs : k + szL smFrmPacket xs ≤ 4294967296) :
    Calls Try.prog 54 #[v, .int .i64 k] w fun e w' => e = .returned (.int .i64 (k + szL smFrmPacket xs)) ∧ OwFrmPacketS w' f v (mkL mkFrmPacket smFrmPacket k xs) ∧ FrL f w w' := by
  unfold OwFrmPacketS at *
  obtain ⟨A, c, rfl⟩ := hv.slice
  have hcv := RdS.cap (hv.rd (fun _ _ _ h => EFrmPacket.rd h))
  have Hv := Lib.hid hv
  have Hnd := Lib.hid hnd
  clear hv hnd
  generalize hl : xs.length = n at *
  have Hl := Lib.hid hl
  clear hl
  have Hs := Lib.hid hs
  clear hs
  go_enter Try.func54, Try.ntmps54
  go_wp2
  go_loopw [1, 5] (fun q i w2 => ∃ j : Nat, j ≤ n ∧ i = .int .i64 j ∧ q = .int .i64 (k + szL smFrmPacket (xs.take j)) ∧ OwL 195 4 EFrmPacket w2 f (.slice A n c) (mkL mkFrmPacket smFrmPacket k (xs.take j) ++ xs.drop j) ∧ FrL f w w2) (fun _ i _ => n - (intOf i).toNat)
  case atStart => exact ⟨0, by omega, rfl, by simp [szL], by simpa [mkL] using Hv.out, FrL.refl _ _⟩
  case round =>
    obtain ⟨j, hj, rfl, rfl, ho, hf⟩ := hrel
    have Ho := Lib.hid ho
    have Hf := Lib.hid hf
    clear ho hf
    by_cases hlt : j < n
    · obtain ⟨g, rfl⟩ := Ho.out.form0 (by omega)
      have hjx : j < xs.length := by rw [Hl.out]; exact hlt
      have hle := szL_take_le (sz := smFrmPacket) (xs := xs) (j + 1)
      have hsu := szL_take_succ (sz := smFrmPacket) hjx
      have hb0 := Hs.out
      have hq : k + szL smFrmPacket (xs.take j) + smFrmPacket xs[j] ≤ 4294967296 := by omega
      have Hsu := Lib.hid hsu
      clear hle hsu hb0
      obtain ⟨f', cs, pre, post, hjl, hE, hr, hpl, hcl, hgf, hfn, hfb, hgb, close⟩ := Ho.out.focus EFrmPacket.framed EFrmPacket.inside Hnd.out hlt
      have hget : (mkL mkFrmPacket smFrmPacket k (xs.take j) ++ xs.drop j)[j] = xs[j] := by
        have h1 := mkL_mid (mk := mkFrmPacket) (sz := smFrmPacket) (k := k) hjx
        rw [List.getElem?_eq_getElem hjl] at h1
        injection h1
      rw [hget] at hE
      have Hset := Lib.hid (mkL_set (mk := mkFrmPacket) (sz := smFrmPacket) (k := k) hjx)
      have hsm : smFrmPacket xs[j] = 3 + szL smFrmChunk xs[j].xChunks := rfl
      rw [hsm] at hq
      obtain ⟨q, hqe⟩ : ∃ q : Int, q = k + szL smFrmPacket (xs.take j) := ⟨_, rfl⟩
      have hq0 : 0 ≤ q := by omega
      rw [← hqe] at hq Hset ⊢
      have Hqe := Lib.hid hqe
      clear hqe hsm hget
      obtain ⟨v3, f3, rfl, h3, hff⟩ := hE
      obtain rfl := hff.symm
      have FC := Lib.hid (show Foc 195 4 g n c j pre post wr [.int .i64 xs[j].xFrom, .int .i64 xs[j].xTo, .int .i64 xs[j].xTag, v3] from ⟨hr, hpl, rfl, hlt⟩)
      have Hc := Lib.hid (show ∀ w' cs' x', Foc 195 4 g n c j pre post w' cs' → FrL (g :: f3) wr w' → EFrmPacket w' f3 cs' x' → _ from fun w' cs' x' h => close w' cs' x' h.row h.m)
      have HF := Lib.hid (FrL.refl (g :: f3) wr)
      have G3 := Lib.hid (show g ∉ f3 by simp_all)
      have O3 := Lib.hid h3
      have N3 := Lib.hid (show f3.Nodup by grind)
      have Hfb := Lib.hid hfb
      have Hgb := Lib.hid hgb
      clear hr hpl hcl close hgf hfn hfb hgb h3
      have c0 := FC.out.at0 rfl
      have z0 := FC.out.frozen (j * 4)
      have c1 := FC.out.at (i := 1) rfl
      have z1 := FC.out.frozen (j * 4 + 1)
      have c2 := FC.out.at (i := 2) rfl
      have z2 := FC.out.frozen (j * 4 + 2)
      have c3 := FC.out.at (i := 3) rfl
      have z3 := FC.out.frozen (j * 4 + 3)
      go_wp2_with fail
      refine (markFrmChunkS_m f3 _ _ xs[j].xChunks _ (by repeat first | with_reducible exact O3.out | with_reducible refine OwFrmChunkS.set_FrmPacket ?_ G3.out) N3.out (by omega) (by omega)).mono ?_
      rintro e w3' ⟨rfl, o3, r3⟩
      have FC := Lib.hid (Foc.frl (e := 195) (m := 4) (g := g) (n := n) (c := c) (j := j) (pre := pre) (post := post) (by repeat first | with_reducible exact FC.out | (with_reducible refine' Foc.set ?_ (by decide); rotate_left) | (with_reducible refine' Foc.set0 ?_ (by decide); rotate_left) | (with_reducible refine' Foc.set2 ?_ (by decide); rotate_left)) r3 G3.out)
      try simp only [Nat.reduceAdd, List.set_cons_zero, List.set_cons_succ] at FC
      have O3 := Lib.hid o3
      have HF := Lib.hid (FrL.trans (bs := g :: f3) (a := wr) (by repeat first | with_reducible exact HF.out | with_reducible refine FrL.set ?_ _ (by simp)) (r3.mono (by intro b hb; simp [hb])))
      clear o3 r3 c0 z0 c1 z1 c2 z2 c3 z3
      have c0 := FC.out.at0 rfl
      have z0 := FC.out.frozen (j * 4)
      have c1 := FC.out.at (i := 1) rfl
      have z1 := FC.out.frozen (j * 4 + 1)
      have c2 := FC.out.at (i := 2) rfl
      have z2 := FC.out.frozen (j * 4 + 2)
      have c3 := FC.out.at (i := 3) rfl
      have z3 := FC.out.frozen (j * 4 + 3)
      go_wp2
      refine ⟨⟨j + 1, by omega, by go_num, congrArg _ (by rw [Hsu.out]; have h1 := Hqe.out; simp only [smFrmPacket]; omega), ?_, ?_⟩, by simp [intOf]; omega⟩
      · rw [← Hset.out]
        refine Hc.out _ _ _ (by repeat first | with_reducible exact FC.out | (with_reducible refine' Foc.set ?_ (by decide); rotate_left) | (with_reducible refine' Foc.set0 ?_ (by decide); rotate_left) | (with_reducible refine' Foc.set2 ?_ (by decide); rotate_left)) (by repeat first | with_reducible exact HF.out | with_reducible refine FrL.set ?_ _ (by simp)) ?_
        refine ⟨v3, f3, ?_, ?_, rfl⟩
        · simp only [Nat.reduceAdd, List.set_cons_zero, List.set_cons_succ, mkFrmPacket, List.cons.injEq, Value.int.injEq, Value.bool.injEq, true_and, and_true]; try (and_intros <;> first | rfl | omega | (congr 2; omega) | (congr 1; omega))
        · simp only [mkFrmPacket]
          exact (by repeat first | with_reducible exact O3.out | with_reducible refine OwFrmChunkS.set_FrmPacket ?_ G3.out)
      · exact Hf.out.trans (FrL.mono (bs := g :: f3) (by repeat first | with_reducible exact HF.out | with_reducible refine FrL.set ?_ _ (by simp)) (by intro b hb; exact (List.mem_cons.1 hb).elim (fun h => h ▸ Hgb.out) (fun h => Hfb.out b h)))
    · have : j = n := by omega
      subst this
      have ho := Ho.out
      rw [List.take_of_length_le (by rw [Hl.out]; omega), List.drop_of_length_le (by rw [Hl.out]; omega), List.append_nil] at ho
      have Hx := Lib.hid (List.take_of_length_le (l := xs) (i := j) (by rw [Hl.out]; omega))
      go_wp2
      go_ret
      exact ⟨retI (by rw [Hx.out]), ho, Hf.out⟩

set_option maxRecDepth 100000 in
set_option maxHeartbeats 4000000 in
theorem heldFrmPacketS_h (v : Value) (k : Int) (xs : List DFrmPacket) (w : World) (hv : RdFrmPacketS w v (mkL mkFrmPacket smFrmPacket k xs)) (hk : 0 ≤ k) (hs : k + szL smFrmPacket xs ≤ 4294967296) :
    Calls Try.prog 56 #[v, .int .i64 k] w fun e w' => e = .returned (.int .i64 (k + szL smFrmPacket xs)) ∧ Below w.heap.size w w' := by
  obtain ⟨A, c, rfl⟩ := RdS.slice hv
  have hcv := RdS.cap hv
  have Hv := Lib.hid hv
  clear hv
  have Hs := Lib.hid hs
  clear hs
  generalize hl : (mkL mkFrmPacket smFrmPacket k xs).length = n at *
  have Hl := Lib.hid (hl.symm.trans (mkL_len k xs)).symm
  clear hl
  go_enter Try.func56, Try.ntmps56
  go_wp2
  go_loopw [1, 5] (fun q i w2 => ∃ j : Nat, j ≤ n ∧ i = .int .i64 j ∧ q = .int .i64 (k + szL smFrmPacket (xs.take j)) ∧ Below w.heap.size w w2) (fun _ i _ => n - (intOf i).toNat)
  case atStart => exact ⟨0, by omega, rfl, by simp [szL], Below.refl _ _⟩
  case round =>
    obtain ⟨j, hj, rfl, rfl, hb⟩ := hrel
    have HB := Lib.hid hb
    clear hb
    by_cases hlt : j < n
    · have hjx : j < xs.length := by rw [Hl.out]; exact hlt
      have hle := szL_take_le (sz := smFrmPacket) (xs := xs) (j + 1)
      have hsu := szL_take_succ (sz := smFrmPacket) hjx
      have hb0 := Hs.out
      have hq : k + szL smFrmPacket (xs.take j) + smFrmPacket xs[j] ≤ 4294967296 := by omega
      have Hsu := Lib.hid hsu
      clear hle hsu hb0
      obtain ⟨ad, cs, hk2, rfl, hcl, hca, hE⟩ := RdS.at_ (Hv.out.below HB.out) hlt
      have hget : (mkL mkFrmPacket smFrmPacket k xs)[j] = mkFrmPacket (k + szL smFrmPacket (xs.take j)) xs[j] := by
        have h1 := mkL_get (mk := mkFrmPacket) (sz := smFrmPacket) (k := k) hjx
        rw [List.getElem?_eq_getElem hk2] at h1
        injection h1
      rw [hget] at hE
      have hsm : smFrmPacket xs[j] = 3 + szL smFrmChunk xs[j].xChunks := rfl
      rw [hsm] at hq
      obtain ⟨q, hqe⟩ : ∃ q : Int, q = k + szL smFrmPacket (xs.take j) := ⟨_, rfl⟩
      have hq0 : 0 ≤ q := by omega
      rw [← hqe] at hq hE ⊢
      have Hqe := Lib.hid hqe
      clear hqe hsm hget
      obtain ⟨v3, rfl, h3⟩ := hE
      simp only [mkFrmPacket] at hca h3
      have H3 := Lib.hid h3
      clear h3
      have HC := Lib.hid hca
      have c0 := hca.c0
      have c1 := hca.ci 0 rfl
      have c2 := hca.ci 1 rfl
      have c3 := hca.ci 2 rfl
      clear hca hcl
      go_wp2_with fail
      refine (heldFrmChunkS_h _ _ xs[j].xChunks _ (by first | exact H3.out | (have hh := H3.out; refine Eq.mp (congrArg _ ?_) hh; congr 1; omega)) (by omega) (by omega)).mono ?_
      rintro e w3' ⟨rfl, b3⟩
      have HC := Lib.hid (HC.out.below b3)
      have HB := Lib.hid (HB.out.trans (b3.mono HB.out.size))
      clear b3 c0 c1 c2 c3
      have c0 := HC.out.c0
      have c1 := HC.out.ci 0 rfl
      have c2 := HC.out.ci 1 rfl
      have c3 := HC.out.ci 2 rfl
      go_wp2
      exact ⟨⟨j + 1, by omega, by go_num, congrArg _ (by rw [Hsu.out]; have h1 := Hqe.out; simp only [smFrmPacket]; omega), HB.out⟩, by simp [intOf]; omega⟩
    · have : j = n := by omega
      subst this
      have Hx := Lib.hid (List.take_of_length_le (l := xs) (i := j) (by rw [Hl.out]; omega))
      go_wp2
      go_ret
      exact ⟨retI (by rw [Hx.out]), HB.out⟩

def maFrmPacket (k : Int) (x : DFrmPacket) : DFrmPacket := { xFrom := x.xFrom, xTo := x.xTo, xTag := x.xTag, xChunks := mkL mkFrmChunk smFrmChunk (k) x.xChunks : DFrmPacket }
def saFrmPacket (x : DFrmPacket) : Nat := szL smFrmChunk x.xChunks
end Go.Proofs.Ythdjjgbjemaabaa
