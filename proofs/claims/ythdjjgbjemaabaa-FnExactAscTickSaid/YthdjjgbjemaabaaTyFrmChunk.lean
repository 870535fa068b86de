/-
  Words and the laws' helpers of FrmChunk and of lists of it. (Written by wip/tools/gentype.py.)
-/
import Derived.Test.YthdjjgbjemaabaaKin
import Derived.Test.YthdjjgbjemaabaaTyFrmGap
namespace Go.Proofs.Ythdjjgbjemaabaa
open Go.ChangeShapes Go.WideShapes Go.ChangeAt Go.RowKit
set_option linter.unusedVariables false
set_option linter.unusedSimpArgs false

structure DFrmChunk where
  xKind : Int
  xFlags : Int
  xTag : Int
  xTsn : Int
  xStream : Int
  xSsn : Int
  xWindow : Int
  xCause : Int
  xGaps : List DFrmGap
  xDoubles : List Int
  xBody : List UInt8
def FFrmChunk (w : World) (cs : List Value) (x : DFrmChunk) : Prop := ∃ v8 v9 v10 : Value, cs = [.int .i64 x.xKind, .int .i64 x.xFlags, .int .i64 x.xTag, .int .i64 x.xTsn, .int .i64 x.xStream, .int .i64 x.xSsn, .int .i64 x.xWindow, .int .i64 x.xCause, v8, v9, v10] ∧ RdFrmGapS w v8 x.xGaps ∧ RdI w v9 x.xDoubles ∧ RdB w v10 x.xBody
def EFrmChunk (w : World) (f : List Nat) (cs : List Value) (x : DFrmChunk) : Prop := ∃ (v8 v9 v10 : Value) (f8 f9 f10 : List Nat), cs = [.int .i64 x.xKind, .int .i64 x.xFlags, .int .i64 x.xTag, .int .i64 x.xTsn, .int .i64 x.xStream, .int .i64 x.xSsn, .int .i64 x.xWindow, .int .i64 x.xCause, v8, v9, v10] ∧ OwFrmGapS w f8 v8 x.xGaps ∧ OwIn w f9 v9 x.xDoubles ∧ OwBy w f10 v10 x.xBody ∧ f = f8 ++ f9 ++ f10
theorem FFrmChunk.below {w w' : World} {cs : List Value} {x : DFrmChunk} (h : FFrmChunk w cs x) (hb : Below w.heap.size w w') : FFrmChunk w' cs x := by
  obtain ⟨v8, v9, v10, rfl, h8, h9, h10⟩ := h
  exact ⟨v8, v9, v10, rfl, h8.below hb, h9.below hb, h10.below hb⟩
theorem EFrmChunk.framed : Framed EFrmChunk := by
  rintro w w' f cs x ⟨v8, v9, v10, f8, f9, f10, rfl, h8, h9, h10, rfl⟩ hb
  exact ⟨_, _, _, _, _, _, rfl, h8.keep (fun b h => hb b (by simp [h])), h9.keep (fun b h => hb b (by simp [h])), h10.keep (fun b h => hb b (by simp [h])), rfl⟩
theorem EFrmChunk.inside : Inside EFrmChunk := by
  rintro w f cs x ⟨v8, v9, v10, f8, f9, f10, rfl, h8, h9, h10, rfl⟩ b hb
  simp only [List.mem_append] at hb
  rcases hb with (hb | hb) | hb
  · exact h8.inside b hb
  · exact h9.inside b hb
  · exact h10.inside b hb
theorem EFrmChunk.rd {w : World} {f : List Nat} {cs : List Value} {x : DFrmChunk} (h : EFrmChunk w f cs x) : FFrmChunk w cs x := by
  obtain ⟨v8, v9, v10, f8, f9, f10, rfl, h8, h9, h10, rfl⟩ := h
  exact ⟨v8, v9, v10, rfl, h8.rd, h9.rd, h10.rd⟩
abbrev RdFrmChunkS (w : World) (v : Value) (xs : List DFrmChunk) : Prop := RdS 11 FFrmChunk w v xs
def OwFrmChunkS (w : World) (f : List Nat) (v : Value) (xs : List DFrmChunk) : Prop := OwL 189 11 EFrmChunk w f v xs
theorem RdFrmChunkS.below {w w' : World} {v : Value} {xs : List DFrmChunk} (h : RdFrmChunkS w v xs) (hb : Below w.heap.size w w') : RdFrmChunkS w' v xs := RdS.below (fun _ _ h => h.below hb) h hb
theorem RdFrmChunkS.slice {w : World} {v : Value} {xs : List DFrmChunk} (h : RdFrmChunkS w v xs) : ∃ A c, v = .slice A xs.length c := RdS.slice h
theorem OwFrmChunkS.keep {w w' : World} {f : List Nat} {v : Value} {xs : List DFrmChunk} (h : OwFrmChunkS w f v xs) (hb : ∀ b ∈ f, w'.heap[b]? = w.heap[b]?) : OwFrmChunkS w' f v xs := OwL.keep EFrmChunk.framed h hb
theorem OwFrmChunkS.inside {w : World} {f : List Nat} {v : Value} {xs : List DFrmChunk} (h : OwFrmChunkS w f v xs) : ∀ b ∈ f, b < w.heap.size := OwL.inside EFrmChunk.inside h
theorem OwFrmChunkS.rd {w : World} {f : List Nat} {v : Value} {xs : List DFrmChunk} (h : OwFrmChunkS w f v xs) : RdFrmChunkS w v xs := OwL.rd (fun _ _ _ h => h.rd) h
def zFrmChunk (x : DFrmChunk) : Nat := x.xGaps.length + x.xDoubles.length + x.xBody.length

set_option maxHeartbeats 2000000 in
theorem eqFrmChunk_s (cs ds : List Value) (x : DFrmChunk) (w : World) (h : FFrmChunk w cs x) (k : FFrmChunk w ds x) (hz : zFrmChunk x ≤ 1048576) :
    Calls Try.prog 307 #[.agg cs.toArray, .agg ds.toArray] w fun e w' => e = .returned (.bool true) ∧ Below w.heap.size w w' := by
  obtain ⟨v8, v9, v10, rfl, h8, h9, h10⟩ := h
  obtain ⟨u8, u9, u10, rfl, k8, k9, k10⟩ := k
  simp only [zFrmChunk] at hz
  have Hz := Lib.hid hz
  clear hz
  have KA := Lib.hid ((Blk.new (w := w) (b := w.heap.size) #[.int .i64 x.xKind, .int .i64 x.xFlags, .int .i64 x.xTag, .int .i64 x.xTsn, .int .i64 x.xStream, .int .i64 x.xSsn, .int .i64 x.xWindow, .int .i64 x.xCause, v8, v9, v10] 189 rfl).alloc (.cells #[.int .i64 x.xKind, .int .i64 x.xFlags, .int .i64 x.xTag, .int .i64 x.xTsn, .int .i64 x.xStream, .int .i64 x.xSsn, .int .i64 x.xWindow, .int .i64 x.xCause, u8, u9, u10] 189))
  have KB := Lib.hid (Blk.new (w := w.alloc (.cells #[.int .i64 x.xKind, .int .i64 x.xFlags, .int .i64 x.xTag, .int .i64 x.xTsn, .int .i64 x.xStream, .int .i64 x.xSsn, .int .i64 x.xWindow, .int .i64 x.xCause, v8, v9, v10] 189)) (b := w.heap.size + 1) #[.int .i64 x.xKind, .int .i64 x.xFlags, .int .i64 x.xTag, .int .i64 x.xTsn, .int .i64 x.xStream, .int .i64 x.xSsn, .int .i64 x.xWindow, .int .i64 x.xCause, u8, u9, u10] 189 (by simp))
  have HB := Lib.hid (below2 w (.cells #[.int .i64 x.xKind, .int .i64 x.xFlags, .int .i64 x.xTag, .int .i64 x.xTsn, .int .i64 x.xStream, .int .i64 x.xSsn, .int .i64 x.xWindow, .int .i64 x.xCause, v8, v9, v10] 189) (.cells #[.int .i64 x.xKind, .int .i64 x.xFlags, .int .i64 x.xTag, .int .i64 x.xTsn, .int .i64 x.xStream, .int .i64 x.xSsn, .int .i64 x.xWindow, .int .i64 x.xCause, u8, u9, u10] 189))
  have H8 := Lib.hid h8
  have K8 := Lib.hid k8
  have H9 := Lib.hid h9
  have K9 := Lib.hid k9
  have H10 := Lib.hid h10
  have K10 := Lib.hid k10
  clear h8 k8 h9 k9 h10 k10
  go_enter Try.func307, Try.ntmps307
  go_wp2_with fail
  refine (eqFrmGapS_s _ _ x.xGaps _ (H8.out.below (by exact HB.out)) (K8.out.below (by exact HB.out)) (by have := Hz.out; omega)).mono ?_
  rintro e w1 ⟨rfl, b1⟩
  have KA := Lib.hid (KA.out.keep b1)
  have KB := Lib.hid (KB.out.keep b1)
  have HB := Lib.hid (HB.out.trans (b1.mono HB.out.size))
  clear b1
  have ac9 := KA.out.at (i := 9) rfl
  have bc9 := KB.out.at (i := 9) rfl
  have ac10 := KA.out.at (i := 10) rfl
  have bc10 := KB.out.at (i := 10) rfl
  go_wp2_with fail
  refine (eqIntS_s _ _ x.xDoubles _ (H9.out.below (by exact HB.out)) (K9.out.below (by exact HB.out)) (by have := Hz.out; omega)).mono ?_
  rintro e w2 ⟨rfl, b2⟩
  clear ac9 bc9 ac10 bc10
  have KA := Lib.hid (KA.out.keep b2)
  have KB := Lib.hid (KB.out.keep b2)
  have HB := Lib.hid (HB.out.trans (b2.mono HB.out.size))
  clear b2
  have ac10 := KA.out.at (i := 10) rfl
  have bc10 := KB.out.at (i := 10) rfl
  go_wp2_with fail
  refine (eqByteS_s _ _ x.xBody _ (H10.out.below (by exact HB.out)) (K10.out.below (by exact HB.out)) (by have := Hz.out; omega)).mono ?_
  rintro e w3 ⟨rfl, b3⟩
  clear ac10 bc10
  have KA := Lib.hid (KA.out.keep b3)
  have KB := Lib.hid (KB.out.keep b3)
  have HB := Lib.hid (HB.out.trans (b3.mono HB.out.size))
  clear b3
  go_wp2
  go_ret
  exact ⟨rfl, HB.out⟩

theorem info_FrmChunk : (Try.prog.info? 189).map (fun i => (i.zero, i.size)) = some (some (.agg #[.int .i64 0, .int .i64 0, .int .i64 0, .int .i64 0, .int .i64 0, .int .i64 0, .int .i64 0, .int .i64 0, .slice none 0 0, .slice none 0 0, .slice none 0 0]), 11) := by kernel_rfl
theorem infob_FrmChunk : (match Try.prog.info? 189 with | some i => decide (i.bytes ≤ 4096) | none => false) = true := by kernel_rfl

set_option maxRecDepth 100000 in
set_option maxHeartbeats 1000000 in
theorem eqFrmChunkS_s (u v : Value) (xs : List DFrmChunk) (w : World) (hu : RdFrmChunkS w u xs) (hv : RdFrmChunkS w v xs) (hz : zL zFrmChunk xs ≤ 1048576) :
    Calls Try.prog 239 #[u, v] w fun e w' => e = .returned (.bool true) ∧ Below w.heap.size w w' := by
  have hn : xs.length ≤ 1048576 := by unfold zL at hz; omega
  have hx : ∀ x ∈ xs, zFrmChunk x ≤ 1048576 := fun x h => by have := szL_mem (z := zFrmChunk) h; unfold zL at hz; omega
  clear hz
  obtain ⟨A, c, rfl⟩ := RdS.slice hv
  obtain ⟨A', c', rfl⟩ := RdS.slice hu
  have hcv := RdS.cap hv
  have hcu := RdS.cap hu
  have Hv := Lib.hid hv
  have Hu := Lib.hid hu
  have Hx := Lib.hid hx
  clear hv hu hx
  generalize hl : xs.length = n at *
  have Hl := Lib.hid hl
  clear hl
  go_enter Try.func239, Try.ntmps239
  go_wp2
  go_loopw [5] (fun i w2 => ∃ j : Nat, j ≤ n ∧ i = .int .i64 j ∧ Below w.heap.size w w2) (fun i _ => n - (intOf i).toNat)
  case atStart => exact ⟨0, by omega, rfl, Below.refl _ _⟩
  case round =>
    obtain ⟨j, hj, rfl, hb⟩ := hrel
    have Hb := Lib.hid hb
    clear hb
    by_cases hlt : j < n
    · obtain ⟨ad, cs, hk, rfl, hcl, hca, hE⟩ := RdS.at_ (Hv.out.below Hb.out) hlt
      obtain ⟨ad', cs', hk', rfl, hcl', hca', hE'⟩ := RdS.at_ (Hu.out.below Hb.out) hlt
      have HE := Lib.hid hE
      have HE' := Lib.hid hE'
      obtain ⟨v8, v9, v10, rfl, h8, h9, h10⟩ := hE
      obtain ⟨u8, u9, u10, rfl, k8, k9, k10⟩ := hE'
      have c0 := hca.c0
      have d0 := hca'.c0
      have c1 := hca.ci 0 rfl
      have d1 := hca'.ci 0 rfl
      have c2 := hca.ci 1 rfl
      have d2 := hca'.ci 1 rfl
      have c3 := hca.ci 2 rfl
      have d3 := hca'.ci 2 rfl
      have c4 := hca.ci 3 rfl
      have d4 := hca'.ci 3 rfl
      have c5 := hca.ci 4 rfl
      have d5 := hca'.ci 4 rfl
      have c6 := hca.ci 5 rfl
      have d6 := hca'.ci 5 rfl
      have c7 := hca.ci 6 rfl
      have d7 := hca'.ci 6 rfl
      have c8 := hca.ci 7 rfl
      have d8 := hca'.ci 7 rfl
      have c9 := hca.ci 8 rfl
      have d9 := hca'.ci 8 rfl
      have c10 := hca.ci 9 rfl
      have d10 := hca'.ci 9 rfl
      clear hca hcl hca' hcl' h8 k8 h9 k9 h10 k10
      go_wp2
      go_still_tail 8, (by kernel_rfl)
      go_wp2_with fail
      refine (eqFrmChunk_s _ _ xs[j] _ (by exact HE'.out) (by exact HE.out) (Hx.out _ (List.getElem_mem hk))).mono ?_
      rintro e w3 ⟨rfl, hb3⟩
      have Hb3 := Lib.hid (Hb.out.trans ((below_of_drew hb3).mono Hb.out.size))
      clear hb3 c0 d0 c1 d1 c2 d2 c3 d3 c4 d4 c5 d5 c6 d6 c7 d7 c8 d8 c9 d9 c10 d10
      go_wp2
      exact ⟨⟨j + 1, by omega, by go_num, Hb3.out⟩, by simp [intOf]; omega⟩
    · go_wp2
      go_ret
      exact ⟨rfl, Hb.out⟩

end Go.Proofs.Ythdjjgbjemaabaa
