/-
  Words and the laws' helpers of FrmGap and of lists of it. (Written by wip/tools/gentype.py.)
-/
import Derived.Test.YthdjjgbjemaabaaKin
namespace Go.Proofs.Ythdjjgbjemaabaa
open Go.ChangeShapes Go.WideShapes Go.ChangeAt Go.RowKit
set_option linter.unusedVariables false
set_option linter.unusedSimpArgs false

structure DFrmGap where
  xFrom : Int
  xTo : Int
def FFrmGap (w : World) (cs : List Value) (x : DFrmGap) : Prop := cs = [.int .i64 x.xFrom, .int .i64 x.xTo]
def EFrmGap (w : World) (f : List Nat) (cs : List Value) (x : DFrmGap) : Prop := cs = [.int .i64 x.xFrom, .int .i64 x.xTo] ∧ f = []
theorem FFrmGap.below {w w' : World} {cs : List Value} {x : DFrmGap} (h : FFrmGap w cs x) (hb : Below w.heap.size w w') : FFrmGap w' cs x := by
  exact h
theorem EFrmGap.framed : Framed EFrmGap := by
  rintro w w' f cs x ⟨rfl, rfl⟩ hb
  exact ⟨rfl, rfl⟩
theorem EFrmGap.inside : Inside EFrmGap := by
  rintro w f cs x ⟨rfl, rfl⟩ b hb
  cases hb
theorem EFrmGap.rd {w : World} {f : List Nat} {cs : List Value} {x : DFrmGap} (h : EFrmGap w f cs x) : FFrmGap w cs x := by
  obtain ⟨rfl, rfl⟩ := h
  exact rfl
abbrev RdFrmGapS (w : World) (v : Value) (xs : List DFrmGap) : Prop := RdS 2 FFrmGap w v xs
def OwFrmGapS (w : World) (f : List Nat) (v : Value) (xs : List DFrmGap) : Prop := OwL 223 2 EFrmGap w f v xs
theorem RdFrmGapS.below {w w' : World} {v : Value} {xs : List DFrmGap} (h : RdFrmGapS w v xs) (hb : Below w.heap.size w w') : RdFrmGapS w' v xs := RdS.below (fun _ _ h => h.below hb) h hb
theorem RdFrmGapS.slice {w : World} {v : Value} {xs : List DFrmGap} (h : RdFrmGapS w v xs) : ∃ A c, v = .slice A xs.length c := RdS.slice h
theorem OwFrmGapS.keep {w w' : World} {f : List Nat} {v : Value} {xs : List DFrmGap} (h : OwFrmGapS w f v xs) (hb : ∀ b ∈ f, w'.heap[b]? = w.heap[b]?) : OwFrmGapS w' f v xs := OwL.keep EFrmGap.framed h hb
theorem OwFrmGapS.inside {w : World} {f : List Nat} {v : Value} {xs : List DFrmGap} (h : OwFrmGapS w f v xs) : ∀ b ∈ f, b < w.heap.size := OwL.inside EFrmGap.inside h
theorem OwFrmGapS.rd {w : World} {f : List Nat} {v : Value} {xs : List DFrmGap} (h : OwFrmGapS w f v xs) : RdFrmGapS w v xs := OwL.rd (fun _ _ _ h => h.rd) h

set_option maxHeartbeats 2000000 in
theorem eqFrmGap_s (cs ds : List Value) (x : DFrmGap) (w : World) (h : FFrmGap w cs x) (k : FFrmGap w ds x) :
    Calls Try.prog 200 #[.agg cs.toArray, .agg ds.toArray] w fun e w' => e = .returned (.bool true) ∧ Below w.heap.size w w' := by
  subst h k
  go_enter Try.func200, Try.ntmps200
  go_wp2
  go_ret
  refine ⟨rfl, ?_⟩
  repeat first | with_reducible exact Below.refl _ _ | with_reducible assumption | with_reducible refine Below.setCell ?_ (by simp <;> omega) _ | with_reducible refine Below.alloc ?_ (by simp <;> omega) _ | with_reducible refine Below.drew ?_

theorem info_FrmGap : (Try.prog.info? 223).map (fun i => (i.zero, i.size)) = some (some (.agg #[.int .i64 0, .int .i64 0]), 2) := by kernel_rfl
theorem infob_FrmGap : (match Try.prog.info? 223 with | some i => decide (i.bytes ≤ 4096) | none => false) = true := by kernel_rfl

set_option maxRecDepth 100000 in
set_option maxHeartbeats 1000000 in
theorem eqFrmGapS_s (u v : Value) (xs : List DFrmGap) (w : World) (hu : RdFrmGapS w u xs) (hv : RdFrmGapS w v xs) (hz : xs.length ≤ 1048576) :
    Calls Try.prog 81 #[u, v] w fun e w' => e = .returned (.bool true) ∧ Below w.heap.size w w' := by
  have hn : xs.length ≤ 1048576 := hz
  have hx : True := trivial
  clear hz
  obtain ⟨A, c, rfl⟩ := RdS.slice hv
  obtain ⟨A', c', rfl⟩ := RdS.slice hu
  have hcv := RdS.cap hv
  have hcu := RdS.cap hu
  have Hv := Lib.hid hv
  have Hu := Lib.hid hu
  have Hx := Lib.hid hx
  clear hv hu hx
  generalize hl : xs.length = n at *
  have Hl := Lib.hid hl
  clear hl
  go_enter Try.func81, Try.ntmps81
  go_wp2
  go_loopw [5] (fun i w2 => ∃ j : Nat, j ≤ n ∧ i = .int .i64 j ∧ Below w.heap.size w w2) (fun i _ => n - (intOf i).toNat)
  case atStart => exact ⟨0, by omega, rfl, Below.refl _ _⟩
  case round =>
    obtain ⟨j, hj, rfl, hb⟩ := hrel
    have Hb := Lib.hid hb
    clear hb
    by_cases hlt : j < n
    · obtain ⟨ad, cs, hk, rfl, hcl, hca, hE⟩ := RdS.at_ (Hv.out.below Hb.out) hlt
      obtain ⟨ad', cs', hk', rfl, hcl', hca', hE'⟩ := RdS.at_ (Hu.out.below Hb.out) hlt
      have HE := Lib.hid hE
      have HE' := Lib.hid hE'
      obtain rfl := hE
      obtain rfl := hE'
      have c0 := hca.c0
      have d0 := hca'.c0
      have c1 := hca.ci 0 rfl
      have d1 := hca'.ci 0 rfl
      clear hca hcl hca' hcl' 
      go_wp2
      go_still_tail 8, (by kernel_rfl)
      go_wp2_with fail
      refine (eqFrmGap_s _ _ xs[j] _ (by exact HE'.out) (by exact HE.out)).mono ?_
      rintro e w3 ⟨rfl, hb3⟩
      have Hb3 := Lib.hid (Hb.out.trans ((below_of_drew hb3).mono Hb.out.size))
      clear hb3 c0 d0 c1 d1
      go_wp2
      exact ⟨⟨j + 1, by omega, by go_num, Hb3.out⟩, by simp [intOf]; omega⟩
    · go_wp2
      go_ret
      exact ⟨rfl, Hb.out⟩

end Go.Proofs.Ythdjjgbjemaabaa
