/-
  Words and the laws' helpers of MsgWord and of lists of it. (Written by wip/tools/gentype.py.)
-/
import Derived.Test.YthdjjgbjemaabaaKin
namespace Go.Proofs.Ythdjjgbjemaabaa
open Go.ChangeShapes Go.WideShapes Go.ChangeAt Go.RowKit
set_option linter.unusedVariables false
set_option linter.unusedSimpArgs false

structure DMsgWord where
  xKind : Int
  xCtx : Int
  xNum : Int
  xDest : Int
  xSls : Int
  xBody : List UInt8
def FMsgWord (w : World) (cs : List Value) (x : DMsgWord) : Prop := ∃ v5 : Value, cs = [.int .i64 x.xKind, .int .i64 x.xCtx, .int .i64 x.xNum, .int .i64 x.xDest, .int .i64 x.xSls, v5] ∧ RdB w v5 x.xBody
def EMsgWord (w : World) (f : List Nat) (cs : List Value) (x : DMsgWord) : Prop := ∃ (v5 : Value) (f5 : List Nat), cs = [.int .i64 x.xKind, .int .i64 x.xCtx, .int .i64 x.xNum, .int .i64 x.xDest, .int .i64 x.xSls, v5] ∧ OwBy w f5 v5 x.xBody ∧ f = f5
theorem FMsgWord.below {w w' : World} {cs : List Value} {x : DMsgWord} (h : FMsgWord w cs x) (hb : Below w.heap.size w w') : FMsgWord w' cs x := by
  obtain ⟨v5, rfl, h5⟩ := h
  exact ⟨v5, rfl, h5.below hb⟩
theorem EMsgWord.framed : Framed EMsgWord := by
  rintro w w' f cs x ⟨v5, f5, rfl, h5, rfl⟩ hb
  exact ⟨_, _, rfl, h5.keep (fun b h => hb b (by simp [h])), rfl⟩
theorem EMsgWord.inside : Inside EMsgWord := by
  rintro w f cs x ⟨v5, f5, rfl, h5, rfl⟩ b hb
  exact h5.inside b hb
theorem EMsgWord.rd {w : World} {f : List Nat} {cs : List Value} {x : DMsgWord} (h : EMsgWord w f cs x) : FMsgWord w cs x := by
  obtain ⟨v5, f5, rfl, h5, rfl⟩ := h
  exact ⟨v5, rfl, h5.rd⟩
abbrev RdMsgWordS (w : World) (v : Value) (xs : List DMsgWord) : Prop := RdS 6 FMsgWord w v xs
def OwMsgWordS (w : World) (f : List Nat) (v : Value) (xs : List DMsgWord) : Prop := OwL 164 6 EMsgWord w f v xs
theorem RdMsgWordS.below {w w' : World} {v : Value} {xs : List DMsgWord} (h : RdMsgWordS w v xs) (hb : Below w.heap.size w w') : RdMsgWordS w' v xs := RdS.below (fun _ _ h => h.below hb) h hb
theorem RdMsgWordS.slice {w : World} {v : Value} {xs : List DMsgWord} (h : RdMsgWordS w v xs) : ∃ A c, v = .slice A xs.length c := RdS.slice h
theorem OwMsgWordS.keep {w w' : World} {f : List Nat} {v : Value} {xs : List DMsgWord} (h : OwMsgWordS w f v xs) (hb : ∀ b ∈ f, w'.heap[b]? = w.heap[b]?) : OwMsgWordS w' f v xs := OwL.keep EMsgWord.framed h hb
theorem OwMsgWordS.inside {w : World} {f : List Nat} {v : Value} {xs : List DMsgWord} (h : OwMsgWordS w f v xs) : ∀ b ∈ f, b < w.heap.size := OwL.inside EMsgWord.inside h
theorem OwMsgWordS.rd {w : World} {f : List Nat} {v : Value} {xs : List DMsgWord} (h : OwMsgWordS w f v xs) : RdMsgWordS w v xs := OwL.rd (fun _ _ _ h => h.rd) h
def zMsgWord (x : DMsgWord) : Nat := x.xBody.length

set_option maxHeartbeats 2000000 in
theorem eqMsgWord_s (cs ds : List Value) (x : DMsgWord) (w : World) (h : FMsgWord w cs x) (k : FMsgWord w ds x) (hz : zMsgWord x ≤ 1048576) :
    Calls Try.prog 127 #[.agg cs.toArray, .agg ds.toArray] w fun e w' => e = .returned (.bool true) ∧ Below w.heap.size w w' := by
  obtain ⟨v5, rfl, h5⟩ := h
  obtain ⟨u5, rfl, k5⟩ := k
  simp only [zMsgWord] at hz
  have Hz := Lib.hid hz
  clear hz
  have KA := Lib.hid ((Blk.new (w := w) (b := w.heap.size) #[.int .i64 x.xKind, .int .i64 x.xCtx, .int .i64 x.xNum, .int .i64 x.xDest, .int .i64 x.xSls, v5] 164 rfl).alloc (.cells #[.int .i64 x.xKind, .int .i64 x.xCtx, .int .i64 x.xNum, .int .i64 x.xDest, .int .i64 x.xSls, u5] 164))
  have KB := Lib.hid (Blk.new (w := w.alloc (.cells #[.int .i64 x.xKind, .int .i64 x.xCtx, .int .i64 x.xNum, .int .i64 x.xDest, .int .i64 x.xSls, v5] 164)) (b := w.heap.size + 1) #[.int .i64 x.xKind, .int .i64 x.xCtx, .int .i64 x.xNum, .int .i64 x.xDest, .int .i64 x.xSls, u5] 164 (by simp))
  have HB := Lib.hid (below2 w (.cells #[.int .i64 x.xKind, .int .i64 x.xCtx, .int .i64 x.xNum, .int .i64 x.xDest, .int .i64 x.xSls, v5] 164) (.cells #[.int .i64 x.xKind, .int .i64 x.xCtx, .int .i64 x.xNum, .int .i64 x.xDest, .int .i64 x.xSls, u5] 164))
  have H5 := Lib.hid h5
  have K5 := Lib.hid k5
  clear h5 k5
  go_enter Try.func127, Try.ntmps127
  go_wp2_with fail
  refine (eqByteS_s _ _ x.xBody _ (H5.out.below (by exact HB.out)) (K5.out.below (by exact HB.out)) (by have := Hz.out; omega)).mono ?_
  rintro e w1 ⟨rfl, b1⟩
  have KA := Lib.hid (KA.out.keep b1)
  have KB := Lib.hid (KB.out.keep b1)
  have HB := Lib.hid (HB.out.trans (b1.mono HB.out.size))
  clear b1
  go_wp2
  go_ret
  exact ⟨rfl, HB.out⟩

set_option maxRecDepth 100000 in
set_option maxHeartbeats 1000000 in
theorem eqMsgWordS_s (u v : Value) (xs : List DMsgWord) (w : World) (hu : RdMsgWordS w u xs) (hv : RdMsgWordS w v xs) (hz : zL zMsgWord xs ≤ 1048576) :
    Calls Try.prog 39 #[u, v] w fun e w' => e = .returned (.bool true) ∧ Below w.heap.size w w' := by
  have hn : xs.length ≤ 1048576 := by unfold zL at hz; omega
  have hx : ∀ x ∈ xs, zMsgWord x ≤ 1048576 := fun x h => by have := szL_mem (z := zMsgWord) h; unfold zL at hz; omega
  clear hz
  obtain ⟨A, c, rfl⟩ := RdS.slice hv
  obtain ⟨A', c', rfl⟩ := RdS.slice hu
  have hcv := RdS.cap hv
  have hcu := RdS.cap hu
  have Hv := Lib.hid hv
  have Hu := Lib.hid hu
  have Hx := Lib.hid hx
  clear hv hu hx
  generalize hl : xs.length = n at *
  have Hl := Lib.hid hl
  clear hl
  go_enter Try.func39, Try.ntmps39
  go_wp2
  go_loopw [5] (fun i w2 => ∃ j : Nat, j ≤ n ∧ i = .int .i64 j ∧ Below w.heap.size w w2) (fun i _ => n - (intOf i).toNat)
  case atStart => exact ⟨0, by omega, rfl, Below.refl _ _⟩
  case round =>
    obtain ⟨j, hj, rfl, hb⟩ := hrel
    have Hb := Lib.hid hb
    clear hb
    by_cases hlt : j < n
    · obtain ⟨ad, cs, hk, rfl, hcl, hca, hE⟩ := RdS.at_ (Hv.out.below Hb.out) hlt
      obtain ⟨ad', cs', hk', rfl, hcl', hca', hE'⟩ := RdS.at_ (Hu.out.below Hb.out) hlt
      have HE := Lib.hid hE
      have HE' := Lib.hid hE'
      obtain ⟨v5, rfl, h5⟩ := hE
      obtain ⟨u5, rfl, k5⟩ := hE'
      have c0 := hca.c0
      have d0 := hca'.c0
      have c1 := hca.ci 0 rfl
      have d1 := hca'.ci 0 rfl
      have c2 := hca.ci 1 rfl
      have d2 := hca'.ci 1 rfl
      have c3 := hca.ci 2 rfl
      have d3 := hca'.ci 2 rfl
      have c4 := hca.ci 3 rfl
      have d4 := hca'.ci 3 rfl
      have c5 := hca.ci 4 rfl
      have d5 := hca'.ci 4 rfl
      clear hca hcl hca' hcl' h5 k5
      go_wp2
      go_still_tail 8, (by kernel_rfl)
      go_wp2_with fail
      refine (eqMsgWord_s _ _ xs[j] _ (by exact HE'.out) (by exact HE.out) (Hx.out _ (List.getElem_mem hk))).mono ?_
      rintro e w3 ⟨rfl, hb3⟩
      have Hb3 := Lib.hid (Hb.out.trans ((below_of_drew hb3).mono Hb.out.size))
      clear hb3 c0 d0 c1 d1 c2 d2 c3 d3 c4 d4 c5 d5
      go_wp2
      exact ⟨⟨j + 1, by omega, by go_num, Hb3.out⟩, by simp [intOf]; omega⟩
    · go_wp2
      go_ret
      exact ⟨rfl, Hb.out⟩

end Go.Proofs.Ythdjjgbjemaabaa
