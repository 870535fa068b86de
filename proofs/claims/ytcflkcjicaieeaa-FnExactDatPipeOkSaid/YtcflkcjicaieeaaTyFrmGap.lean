/-
  Words and the laws' helpers of FrmGap and of lists of it. (Written by wip/tools/gentype.py.)
-/
import Derived.Test.YtcflkcjicaieeaaKin
namespace Go.Proofs.Ytcflkcjicaieeaa
open Go.ChangeShapes Go.WideShapes Go.ChangeAt Go.RowKit
set_option linter.unusedVariables false
set_option linter.unusedSimpArgs false

structure DFrmGap where
  xFrom : Int
  xTo : Int
def FFrmGap (w : World) (cs : List Value) (x : DFrmGap) : Prop := cs = [.int .i64 x.xFrom, .int .i64 x.xTo]
def EFrmGap (w : World) (f : List Nat) (cs : List Value) (x : DFrmGap) : Prop := cs = [.int .i64 x.xFrom, .int .i64 x.xTo] ∧ f = []
theorem FFrmGap.below {w w' : World} {cs : List Value} {x : DFrmGap} (h : FFrmGap w cs x) (hb : Below w.heap.size w w') : FFrmGap w' cs x := by
  exact h
theorem EFrmGap.framed : Framed EFrmGap := by
  rintro w w' f cs x ⟨rfl, rfl⟩ hb
  exact ⟨rfl, rfl⟩
theorem EFrmGap.inside : Inside EFrmGap := by
  rintro w f cs x ⟨rfl, rfl⟩ b hb
  cases hb
theorem EFrmGap.rd {w : World} {f : List Nat} {cs : List Value} {x : DFrmGap} (h : EFrmGap w f cs x) : FFrmGap w cs x := by
  obtain ⟨rfl, rfl⟩ := h
  exact rfl
abbrev RdFrmGapS (w : World) (v : Value) (xs : List DFrmGap) : Prop := RdS 2 FFrmGap w v xs
def OwFrmGapS (w : World) (f : List Nat) (v : Value) (xs : List DFrmGap) : Prop := OwL 307 2 EFrmGap w f v xs
theorem RdFrmGapS.below {w w' : World} {v : Value} {xs : List DFrmGap} (h : RdFrmGapS w v xs) (hb : Below w.heap.size w w') : RdFrmGapS w' v xs := RdS.below (fun _ _ h => h.below hb) h hb
theorem RdFrmGapS.slice {w : World} {v : Value} {xs : List DFrmGap} (h : RdFrmGapS w v xs) : ∃ A c, v = .slice A xs.length c := RdS.slice h
theorem OwFrmGapS.keep {w w' : World} {f : List Nat} {v : Value} {xs : List DFrmGap} (h : OwFrmGapS w f v xs) (hb : ∀ b ∈ f, w'.heap[b]? = w.heap[b]?) : OwFrmGapS w' f v xs := OwL.keep EFrmGap.framed h hb
theorem OwFrmGapS.inside {w : World} {f : List Nat} {v : Value} {xs : List DFrmGap} (h : OwFrmGapS w f v xs) : ∀ b ∈ f, b < w.heap.size := OwL.inside EFrmGap.inside h
theorem OwFrmGapS.rd {w : World} {f : List Nat} {v : Value} {xs : List DFrmGap} (h : OwFrmGapS w f v xs) : RdFrmGapS w v xs := OwL.rd (fun _ _ _ h => h.rd) h

set_option maxRecDepth 100000 in
set_option maxHeartbeats 2000000 in
theorem toFrmGap_n (cs : List Value) (x : DFrmGap) (w : World) (h : FFrmGap w cs x) :
    Calls Try.prog 248 #[.agg cs.toArray] w fun e w' => ∃ cs' f, e = .returned (.agg cs'.toArray) ∧ EFrmGap w' f cs' x ∧ Nw w.heap.size w'.heap.size f ∧ Below w.heap.size w w' := by
  subst h
  go_enter Try.func248, Try.ntmps248
  go_wp2
  refine bodyPost_ret (v := .agg #[.int .i64 x.xFrom, .int .i64 x.xTo]) (by simp [results, Try.results248, go_sem]) rfl ⟨_, [], rfl, ⟨rfl, rfl⟩, Nw.nil _ _, ?_⟩
  repeat first | with_reducible exact Below.refl _ _ | with_reducible assumption | with_reducible refine Below.setCell ?_ (by simp <;> omega) _ | with_reducible refine Below.alloc ?_ (by simp <;> omega) _ | with_reducible refine Below.drew ?_

set_option maxHeartbeats 2000000 in
theorem eqFrmGap_s (cs ds : List Value) (x : DFrmGap) (w : World) (h : FFrmGap w cs x) (k : FFrmGap w ds x) :
    Calls Try.prog 247 #[.agg cs.toArray, .agg ds.toArray] w fun e w' => e = .returned (.bool true) ∧ Below w.heap.size w w' := by
  subst h k
  go_enter Try.func247, Try.ntmps247
  go_wp2
  go_ret
  refine ⟨rfl, ?_⟩
  repeat first | with_reducible exact Below.refl _ _ | with_reducible assumption | with_reducible refine Below.setCell ?_ (by simp <;> omega) _ | with_reducible refine Below.alloc ?_ (by simp <;> omega) _ | with_reducible refine Below.drew ?_

set_option maxHeartbeats 400000 in
theorem szFrmGapS_z (v : Value) (xs : List DFrmGap) (left : Int) (w : World) (hv : RdFrmGapS w v xs) (hl : 0 ≤ left ∧ left ≤ 1048576) :
    Calls Try.prog 243 #[v, .int .i64 left] w fun e w' => e = .returned (.int .i64 (szR left xs.length)) ∧ Below w.heap.size w w' := by
  obtain ⟨A, c, rfl⟩ := RdS.slice hv
  have hc := RdS.cap hv
  clear hv
  by_cases h : (xs.length : Int) ≤ left
  · rw [szR_yes h]
    generalize xs.length = n at *
    go_enter Try.func243, Try.ntmps243
    go_wp2
    go_ret
    exact ⟨rfl, Below.refl _ _⟩
  · rw [szR_no h]
    generalize xs.length = n at *
    go_enter Try.func243, Try.ntmps243
    go_wp2
    go_ret
    exact ⟨rfl, Below.refl _ _⟩
theorem info_FrmGap : (Try.prog.info? 307).map (fun i => (i.zero, i.size)) = some (some (.agg #[.int .i64 0, .int .i64 0]), 2) := by kernel_rfl
theorem infob_FrmGap : (match Try.prog.info? 307 with | some i => decide (i.bytes ≤ 4096) | none => false) = true := by kernel_rfl

set_option maxRecDepth 100000 in
set_option maxHeartbeats 1000000 in
theorem toFrmGapS_n (v : Value) (xs : List DFrmGap) (w : World) (hv : RdFrmGapS w v xs) (hz : xs.length ≤ 1048576) :
    Calls Try.prog 244 #[v] w fun e w' => ∃ v' f, e = .returned v' ∧ OwFrmGapS w' f v' xs ∧ Nw w.heap.size w'.heap.size f ∧ Below w.heap.size w w' := by
  obtain ⟨i0, hi0, hz0, hz1, hz2⟩ := info_parts2 info_FrmGap infob_FrmGap
  have hn : xs.length ≤ 1048576 := hz
  have hx : True := trivial
  clear hz
  obtain ⟨A, c, rfl⟩ := RdS.slice hv
  generalize hl : xs.length = n at *
  have Hl := Lib.hid hl
  have Hv := Lib.hid hv
  have Hx := Lib.hid hx
  clear hl hv hx
  go_enter Try.func244, Try.ntmps244
  go_wp2_with (at_make; refine wpList_make_full _ rfl _ _ 210 rfl 0 307 i0 _ 2 Try.underlying210 hi0 hz0 hz1 _ _ _ _ n rfl rfl rfl rfl (make_room hz2 hn) (by unfold maxLen; omega) (Nat.zero_le _) ?_; intro w1 h1 h2)
  generalize hzs : (madeCells _ (n * 2)).toList = zs at h1
  have Z := Lib.hid (show zs.length = n * 2 from h1.1)
  have F1 := Lib.hid (Fill.start (E := EFrmGap) (xs := xs) h1)
  have B1 := Lib.hid ((Below.refl w.heap.size w).grown h2 (Nat.le_refl _) (by simp))
  clear h1 h2 hzs
  go_loopw [4] (fun i w2 => ∃ j : Nat, j ≤ n ∧ i = .int .i64 j ∧ Fill 307 2 EFrmGap zs xs w.heap.size n j w2 ∧ Below w.heap.size w w2) (fun i _ => n - (intOf i).toNat)
  case atStart => exact ⟨0, by omega, rfl, F1.out, B1.out⟩
  case round =>
    obtain ⟨j, hj, rfl, hfi, hb⟩ := hrel
    have Hf := Lib.hid hfi
    have Hb := Lib.hid hb
    clear hfi hb
    by_cases hlt : j < n
    · obtain ⟨ad, cs, hk, rfl, hcl, hca, hE⟩ := RdS.at_ (Hv.out.below Hb.out) hlt
      have HE := Lib.hid hE
      obtain rfl := hE
      have c0 := hca.c0
      have c1 := hca.ci 0 rfl
      clear hca hcl 
      go_wp2_with fail
      refine (toFrmGap_n _ xs[j] _ HE.out).mono ?_
      rintro e w3 ⟨cs', f', rfl, hE', hn', hb3⟩
      clear c0 c1
      obtain ⟨d0, e0⟩ := Hf.out.cell hb3 (p := j * 2) (by omega)
      have z0 := Hf.out.frozen hb3 (j * 2)
      obtain ⟨d1, e1⟩ := Hf.out.cell hb3 (p := j * 2 + 1) (by omega)
      have z1 := Hf.out.frozen hb3 (j * 2 + 1)
      obtain ⟨s1, s2, s3⟩ := Hf.out.step EFrmGap.framed EFrmGap.inside Z.out hlt hb3 (List.getElem?_eq_getElem hk) (cs := cs') (by have h := hE'.1; rw [h]; rfl) hE' hn'.1 (fun b hb' => (hn'.2 b hb').1)
      have S1 := Lib.hid s1
      have S2 := Lib.hid ((Hb.out.trans (hb3.mono Hb.out.size)).trans (s2.below (by simp) (Nat.le_trans Hb.out.size hb3.size)))
      clear s1 s2 s3
      obtain ⟨rfl, rfl⟩ := hE'
      clear hb3 hn'
      go_wp2
      exact ⟨⟨j + 1, by omega, by go_num, S1.out, S2.out⟩, by simp [intOf]; omega⟩
    · have : j = n := by omega
      subst this
      go_wp2
      go_ret
      obtain ⟨bs, h1, h2, h3⟩ := Hf.out.done Hl.out Z.out
      exact ⟨_, bs, rfl, h1, ⟨h2, fun b hb => ⟨h3 b hb, h1.inside EFrmGap.inside b hb⟩⟩, Hb.out⟩

set_option maxRecDepth 100000 in
set_option maxHeartbeats 1000000 in
theorem eqFrmGapS_s (u v : Value) (xs : List DFrmGap) (w : World) (hu : RdFrmGapS w u xs) (hv : RdFrmGapS w v xs) (hz : xs.length ≤ 1048576) :
    Calls Try.prog 242 #[u, v] w fun e w' => e = .returned (.bool true) ∧ Below w.heap.size w w' := by
  have hn : xs.length ≤ 1048576 := hz
  have hx : True := trivial
  clear hz
  obtain ⟨A, c, rfl⟩ := RdS.slice hv
  obtain ⟨A', c', rfl⟩ := RdS.slice hu
  have hcv := RdS.cap hv
  have hcu := RdS.cap hu
  have Hv := Lib.hid hv
  have Hu := Lib.hid hu
  have Hx := Lib.hid hx
  clear hv hu hx
  generalize hl : xs.length = n at *
  have Hl := Lib.hid hl
  clear hl
  go_enter Try.func242, Try.ntmps242
  go_wp2
  go_loopw [5] (fun i w2 => ∃ j : Nat, j ≤ n ∧ i = .int .i64 j ∧ Below w.heap.size w w2) (fun i _ => n - (intOf i).toNat)
  case atStart => exact ⟨0, by omega, rfl, Below.refl _ _⟩
  case round =>
    obtain ⟨j, hj, rfl, hb⟩ := hrel
    have Hb := Lib.hid hb
    clear hb
    by_cases hlt : j < n
    · obtain ⟨ad, cs, hk, rfl, hcl, hca, hE⟩ := RdS.at_ (Hv.out.below Hb.out) hlt
      obtain ⟨ad', cs', hk', rfl, hcl', hca', hE'⟩ := RdS.at_ (Hu.out.below Hb.out) hlt
      have HE := Lib.hid hE
      have HE' := Lib.hid hE'
      obtain rfl := hE
      obtain rfl := hE'
      have c0 := hca.c0
      have d0 := hca'.c0
      have c1 := hca.ci 0 rfl
      have d1 := hca'.ci 0 rfl
      clear hca hcl hca' hcl' 
      go_wp2
      go_still_tail 8, (by kernel_rfl)
      go_wp2_with fail
      refine (eqFrmGap_s _ _ xs[j] _ (by exact HE'.out) (by exact HE.out)).mono ?_
      rintro e w3 ⟨rfl, hb3⟩
      have Hb3 := Lib.hid (Hb.out.trans ((below_of_drew hb3).mono Hb.out.size))
      clear hb3 c0 d0 c1 d1
      go_wp2
      exact ⟨⟨j + 1, by omega, by go_num, Hb3.out⟩, by simp [intOf]; omega⟩
    · go_wp2
      go_ret
      exact ⟨rfl, Hb.out⟩

theorem cells_FrmGap : Try.prog.cellsOf 319 = 2 := by kernel_rfl
set_option maxRecDepth 100000 in
theorem read_FrmGap {H : Type} {enc : TypeId × Value → H} {w : World} {base : Nat} {spare : Nat → Bool} {held : Bool} (n : Nat) (cs : List Value) (y : DataW H × List MemPlace) (hcs : cs.length = 2)
    (h : DataW.trod enc Try.prog w base spare held n 319 cs = some y) : ∃ x : DFrmGap, FFrmGap w cs x := by
  obtain ⟨ys, n', _, _, _, hxl, hg⟩ := DataW.trod_struct Try.underlying319 h
  match cs, hcs with
  | [c0, c1], _ =>
    match ys, hxl with
    | [y0, y1], _ =>
      have h0 : DataW.trod enc Try.prog w base spare held n' 3 (([c0, c1].drop 0).take (Try.prog.cellsOf 3)) = some y0 := hg 0 _ rfl
      have h1 : DataW.trod enc Try.prog w base spare held n' 3 (([c0, c1].drop 1).take (Try.prog.cellsOf 3)) = some y1 := hg 1 _ rfl
      simp only [cellsInt, List.drop_zero, List.drop_succ_cons, List.take_succ_cons, List.take_zero] at h0 h1
      obtain ⟨a0, rfl⟩ := intCell h0
      obtain ⟨a1, rfl⟩ := intCell h1
      exact ⟨⟨a0, a1⟩, rfl⟩
theorem cells_FrmGapS : Try.prog.cellsOf 273 = 1 := by kernel_rfl
end Go.Proofs.Ytcflkcjicaieeaa
