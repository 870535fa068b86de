/-
  Words and the laws' helpers of FrmPacket and of lists of it. (Written by wip/tools/gentype.py.)
-/
import Derived.Test.YthdjjgbjemaabaaKin
import Derived.Test.YthdjjgbjemaabaaTyFrmChunk
namespace Go.Proofs.Ythdjjgbjemaabaa
open Go.ChangeShapes Go.WideShapes Go.ChangeAt Go.RowKit
set_option linter.unusedVariables false
set_option linter.unusedSimpArgs false

structure DFrmPacket where
  xFrom : Int
  xTo : Int
  xTag : Int
  xChunks : List DFrmChunk
def FFrmPacket (w : World) (cs : List Value) (x : DFrmPacket) : Prop := ∃ v3 : Value, cs = [.int .i64 x.xFrom, .int .i64 x.xTo, .int .i64 x.xTag, v3] ∧ RdFrmChunkS w v3 x.xChunks
def EFrmPacket (w : World) (f : List Nat) (cs : List Value) (x : DFrmPacket) : Prop := ∃ (v3 : Value) (f3 : List Nat), cs = [.int .i64 x.xFrom, .int .i64 x.xTo, .int .i64 x.xTag, v3] ∧ OwFrmChunkS w f3 v3 x.xChunks ∧ f = f3
theorem FFrmPacket.below {w w' : World} {cs : List Value} {x : DFrmPacket} (h : FFrmPacket w cs x) (hb : Below w.heap.size w w') : FFrmPacket w' cs x := by
  obtain ⟨v3, rfl, h3⟩ := h
  exact ⟨v3, rfl, h3.below hb⟩
theorem EFrmPacket.framed : Framed EFrmPacket := by
  rintro w w' f cs x ⟨v3, f3, rfl, h3, rfl⟩ hb
  exact ⟨_, _, rfl, h3.keep (fun b h => hb b (by simp [h])), rfl⟩
theorem EFrmPacket.inside : Inside EFrmPacket := by
  rintro w f cs x ⟨v3, f3, rfl, h3, rfl⟩ b hb
  exact h3.inside b hb
theorem EFrmPacket.rd {w : World} {f : List Nat} {cs : List Value} {x : DFrmPacket} (h : EFrmPacket w f cs x) : FFrmPacket w cs x := by
  obtain ⟨v3, f3, rfl, h3, rfl⟩ := h
  exact ⟨v3, rfl, h3.rd⟩
abbrev RdFrmPacketS (w : World) (v : Value) (xs : List DFrmPacket) : Prop := RdS 4 FFrmPacket w v xs
def OwFrmPacketS (w : World) (f : List Nat) (v : Value) (xs : List DFrmPacket) : Prop := OwL 195 4 EFrmPacket w f v xs
theorem RdFrmPacketS.below {w w' : World} {v : Value} {xs : List DFrmPacket} (h : RdFrmPacketS w v xs) (hb : Below w.heap.size w w') : RdFrmPacketS w' v xs := RdS.below (fun _ _ h => h.below hb) h hb
theorem RdFrmPacketS.slice {w : World} {v : Value} {xs : List DFrmPacket} (h : RdFrmPacketS w v xs) : ∃ A c, v = .slice A xs.length c := RdS.slice h
theorem OwFrmPacketS.keep {w w' : World} {f : List Nat} {v : Value} {xs : List DFrmPacket} (h : OwFrmPacketS w f v xs) (hb : ∀ b ∈ f, w'.heap[b]? = w.heap[b]?) : OwFrmPacketS w' f v xs := OwL.keep EFrmPacket.framed h hb
theorem OwFrmPacketS.inside {w : World} {f : List Nat} {v : Value} {xs : List DFrmPacket} (h : OwFrmPacketS w f v xs) : ∀ b ∈ f, b < w.heap.size := OwL.inside EFrmPacket.inside h
theorem OwFrmPacketS.rd {w : World} {f : List Nat} {v : Value} {xs : List DFrmPacket} (h : OwFrmPacketS w f v xs) : RdFrmPacketS w v xs := OwL.rd (fun _ _ _ h => h.rd) h
def zFrmPacket (x : DFrmPacket) : Nat := zL zFrmChunk x.xChunks

set_option maxHeartbeats 2000000 in
theorem eqFrmPacket_s (cs ds : List Value) (x : DFrmPacket) (w : World) (h : FFrmPacket w cs x) (k : FFrmPacket w ds x) (hz : zFrmPacket x ≤ 1048576) :
    Calls Try.prog 156 #[.agg cs.toArray, .agg ds.toArray] w fun e w' => e = .returned (.bool true) ∧ Below w.heap.size w w' := by
  obtain ⟨v3, rfl, h3⟩ := h
  obtain ⟨u3, rfl, k3⟩ := k
  simp only [zFrmPacket] at hz
  have Hz := Lib.hid hz
  clear hz
  have KA := Lib.hid ((Blk.new (w := w) (b := w.heap.size) #[.int .i64 x.xFrom, .int .i64 x.xTo, .int .i64 x.xTag, v3] 195 rfl).alloc (.cells #[.int .i64 x.xFrom, .int .i64 x.xTo, .int .i64 x.xTag, u3] 195))
  have KB := Lib.hid (Blk.new (w := w.alloc (.cells #[.int .i64 x.xFrom, .int .i64 x.xTo, .int .i64 x.xTag, v3] 195)) (b := w.heap.size + 1) #[.int .i64 x.xFrom, .int .i64 x.xTo, .int .i64 x.xTag, u3] 195 (by simp))
  have HB := Lib.hid (below2 w (.cells #[.int .i64 x.xFrom, .int .i64 x.xTo, .int .i64 x.xTag, v3] 195) (.cells #[.int .i64 x.xFrom, .int .i64 x.xTo, .int .i64 x.xTag, u3] 195))
  have H3 := Lib.hid h3
  have K3 := Lib.hid k3
  clear h3 k3
  go_enter Try.func156, Try.ntmps156
  go_wp2_with fail
  refine (eqFrmChunkS_s _ _ x.xChunks _ (H3.out.below (by exact HB.out)) (K3.out.below (by exact HB.out)) (by have := Hz.out; omega)).mono ?_
  rintro e w1 ⟨rfl, b1⟩
  have KA := Lib.hid (KA.out.keep b1)
  have KB := Lib.hid (KB.out.keep b1)
  have HB := Lib.hid (HB.out.trans (b1.mono HB.out.size))
  clear b1
  go_wp2
  go_ret
  exact ⟨rfl, HB.out⟩

set_option maxRecDepth 100000 in
set_option maxHeartbeats 1000000 in
theorem eqFrmPacketS_s (u v : Value) (xs : List DFrmPacket) (w : World) (hu : RdFrmPacketS w u xs) (hv : RdFrmPacketS w v xs) (hz : zL zFrmPacket xs ≤ 1048576) :
    Calls Try.prog 52 #[u, v] w fun e w' => e = .returned (.bool true) ∧ Below w.heap.size w w' := by
  have hn : xs.length ≤ 1048576 := by unfold zL at hz; omega
  have hx : ∀ x ∈ xs, zFrmPacket x ≤ 1048576 := fun x h => by have := szL_mem (z := zFrmPacket) h; unfold zL at hz; omega
  clear hz
  obtain ⟨A, c, rfl⟩ := RdS.slice hv
  obtain ⟨A', c', rfl⟩ := RdS.slice hu
  have hcv := RdS.cap hv
  have hcu := RdS.cap hu
  have Hv := Lib.hid hv
  have Hu := Lib.hid hu
  have Hx := Lib.hid hx
  clear hv hu hx
  generalize hl : xs.length = n at *
  have Hl := Lib.hid hl
  clear hl
  go_enter Try.func52, Try.ntmps52
  go_wp2
  go_loopw [5] (fun i w2 => ∃ j : Nat, j ≤ n ∧ i = .int .i64 j ∧ Below w.heap.size w w2) (fun i _ => n - (intOf i).toNat)
  case atStart => exact ⟨0, by omega, rfl, Below.refl _ _⟩
  case round =>
    obtain ⟨j, hj, rfl, hb⟩ := hrel
    have Hb := Lib.hid hb
    clear hb
    by_cases hlt : j < n
    · obtain ⟨ad, cs, hk, rfl, hcl, hca, hE⟩ := RdS.at_ (Hv.out.below Hb.out) hlt
      obtain ⟨ad', cs', hk', rfl, hcl', hca', hE'⟩ := RdS.at_ (Hu.out.below Hb.out) hlt
      have HE := Lib.hid hE
      have HE' := Lib.hid hE'
      obtain ⟨v3, rfl, h3⟩ := hE
      obtain ⟨u3, rfl, k3⟩ := hE'
      have c0 := hca.c0
      have d0 := hca'.c0
      have c1 := hca.ci 0 rfl
      have d1 := hca'.ci 0 rfl
      have c2 := hca.ci 1 rfl
      have d2 := hca'.ci 1 rfl
      have c3 := hca.ci 2 rfl
      have d3 := hca'.ci 2 rfl
      clear hca hcl hca' hcl' h3 k3
      go_wp2
      go_still_tail 8, (by kernel_rfl)
      go_wp2_with fail
      refine (eqFrmPacket_s _ _ xs[j] _ (by exact HE'.out) (by exact HE.out) (Hx.out _ (List.getElem_mem hk))).mono ?_
      rintro e w3 ⟨rfl, hb3⟩
      have Hb3 := Lib.hid (Hb.out.trans ((below_of_drew hb3).mono Hb.out.size))
      clear hb3 c0 d0 c1 d1 c2 d2 c3 d3
      go_wp2
      exact ⟨⟨j + 1, by omega, by go_num, Hb3.out⟩, by simp [intOf]; omega⟩
    · go_wp2
      go_ret
      exact ⟨rfl, Hb.out⟩

end Go.Proofs.Ythdjjgbjemaabaa
