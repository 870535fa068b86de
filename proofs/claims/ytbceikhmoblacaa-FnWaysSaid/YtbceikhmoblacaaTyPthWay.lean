/-
  Words and the laws' helpers of PthWay and of lists of it. (Written by wip/tools/gentype.py.)
-/
import Derived.Test.YtbceikhmoblacaaKin
namespace Go.Proofs.Ytbceikhmoblacaa
open Go.ChangeShapes Go.WideShapes Go.ChangeAt Go.RowKit
set_option linter.unusedVariables false
set_option linter.unusedSimpArgs false

structure DPthWay where
  xAddr : Int
  xOn : Bool
  xErrors : Int
  xSrtt : Int
  xVar : Int
  xRto : Int
def FPthWay (w : World) (cs : List Value) (x : DPthWay) : Prop := cs = [.int .i64 x.xAddr, .bool x.xOn, .int .i64 x.xErrors, .int .i64 x.xSrtt, .int .i64 x.xVar, .int .i64 x.xRto]
def EPthWay (w : World) (f : List Nat) (cs : List Value) (x : DPthWay) : Prop := cs = [.int .i64 x.xAddr, .bool x.xOn, .int .i64 x.xErrors, .int .i64 x.xSrtt, .int .i64 x.xVar, .int .i64 x.xRto] ∧ f = []
theorem FPthWay.below {w w' : World} {cs : List Value} {x : DPthWay} (h : FPthWay w cs x) (hb : Below w.heap.size w w') : FPthWay w' cs x := by
  exact h
theorem EPthWay.framed : Framed EPthWay := by
  rintro w w' f cs x ⟨rfl, rfl⟩ hb
  exact ⟨rfl, rfl⟩
theorem EPthWay.inside : Inside EPthWay := by
  rintro w f cs x ⟨rfl, rfl⟩ b hb
  cases hb
theorem EPthWay.rd {w : World} {f : List Nat} {cs : List Value} {x : DPthWay} (h : EPthWay w f cs x) : FPthWay w cs x := by
  obtain ⟨rfl, rfl⟩ := h
  exact rfl
abbrev RdPthWayS (w : World) (v : Value) (xs : List DPthWay) : Prop := RdS 6 FPthWay w v xs
def OwPthWayS (w : World) (f : List Nat) (v : Value) (xs : List DPthWay) : Prop := OwL 70 6 EPthWay w f v xs
theorem RdPthWayS.below {w w' : World} {v : Value} {xs : List DPthWay} (h : RdPthWayS w v xs) (hb : Below w.heap.size w w') : RdPthWayS w' v xs := RdS.below (fun _ _ h => h.below hb) h hb
theorem RdPthWayS.slice {w : World} {v : Value} {xs : List DPthWay} (h : RdPthWayS w v xs) : ∃ A c, v = .slice A xs.length c := RdS.slice h
theorem OwPthWayS.keep {w w' : World} {f : List Nat} {v : Value} {xs : List DPthWay} (h : OwPthWayS w f v xs) (hb : ∀ b ∈ f, w'.heap[b]? = w.heap[b]?) : OwPthWayS w' f v xs := OwL.keep EPthWay.framed h hb
theorem OwPthWayS.inside {w : World} {f : List Nat} {v : Value} {xs : List DPthWay} (h : OwPthWayS w f v xs) : ∀ b ∈ f, b < w.heap.size := OwL.inside EPthWay.inside h
theorem OwPthWayS.rd {w : World} {f : List Nat} {v : Value} {xs : List DPthWay} (h : OwPthWayS w f v xs) : RdPthWayS w v xs := OwL.rd (fun _ _ _ h => h.rd) h

set_option maxRecDepth 100000 in
set_option maxHeartbeats 2000000 in
theorem toPthWay_n (cs : List Value) (x : DPthWay) (w : World) (h : FPthWay w cs x) :
    Calls Try.prog 86 #[.agg cs.toArray] w fun e w' => ∃ cs' f, e = .returned (.agg cs'.toArray) ∧ EPthWay w' f cs' x ∧ Nw w.heap.size w'.heap.size f ∧ Below w.heap.size w w' := by
  subst h
  go_enter Try.func86, Try.ntmps86
  go_wp2
  refine bodyPost_ret (v := .agg #[.int .i64 x.xAddr, .bool x.xOn, .int .i64 x.xErrors, .int .i64 x.xSrtt, .int .i64 x.xVar, .int .i64 x.xRto]) (by simp [results, Try.results86, go_sem]) rfl ⟨_, [], rfl, ⟨rfl, rfl⟩, Nw.nil _ _, ?_⟩
  repeat first | with_reducible exact Below.refl _ _ | with_reducible assumption | with_reducible refine Below.setCell ?_ (by simp <;> omega) _ | with_reducible refine Below.alloc ?_ (by simp <;> omega) _ | with_reducible refine Below.drew ?_

set_option maxHeartbeats 2000000 in
theorem eqPthWay_s (cs ds : List Value) (x : DPthWay) (w : World) (h : FPthWay w cs x) (k : FPthWay w ds x) :
    Calls Try.prog 89 #[.agg cs.toArray, .agg ds.toArray] w fun e w' => e = .returned (.bool true) ∧ Below w.heap.size w w' := by
  subst h k
  go_enter Try.func89, Try.ntmps89
  go_wp2
  go_ret
  refine ⟨rfl, ?_⟩
  repeat first | with_reducible exact Below.refl _ _ | with_reducible assumption | with_reducible refine Below.setCell ?_ (by simp <;> omega) _ | with_reducible refine Below.alloc ?_ (by simp <;> omega) _ | with_reducible refine Below.drew ?_

set_option maxHeartbeats 400000 in
theorem szPthWayS_z (v : Value) (xs : List DPthWay) (left : Int) (w : World) (hv : RdPthWayS w v xs) (hl : 0 ≤ left ∧ left ≤ 1048576) :
    Calls Try.prog 19 #[v, .int .i64 left] w fun e w' => e = .returned (.int .i64 (szR left xs.length)) ∧ Below w.heap.size w w' := by
  obtain ⟨A, c, rfl⟩ := RdS.slice hv
  have hc := RdS.cap hv
  clear hv
  by_cases h : (xs.length : Int) ≤ left
  · rw [szR_yes h]
    generalize xs.length = n at *
    go_enter Try.func19, Try.ntmps19
    go_wp2
    go_ret
    exact ⟨rfl, Below.refl _ _⟩
  · rw [szR_no h]
    generalize xs.length = n at *
    go_enter Try.func19, Try.ntmps19
    go_wp2
    go_ret
    exact ⟨rfl, Below.refl _ _⟩
theorem info_PthWay : (Try.prog.info? 70).map (fun i => (i.zero, i.size)) = some (some (.agg #[.int .i64 0, .bool false, .int .i64 0, .int .i64 0, .int .i64 0, .int .i64 0]), 6) := by kernel_rfl
theorem infob_PthWay : (match Try.prog.info? 70 with | some i => decide (i.bytes ≤ 4096) | none => false) = true := by kernel_rfl

set_option maxRecDepth 100000 in
set_option maxHeartbeats 1000000 in
theorem toPthWayS_n (v : Value) (xs : List DPthWay) (w : World) (hv : RdPthWayS w v xs) (hz : xs.length ≤ 1048576) :
    Calls Try.prog 21 #[v] w fun e w' => ∃ v' f, e = .returned v' ∧ OwPthWayS w' f v' xs ∧ Nw w.heap.size w'.heap.size f ∧ Below w.heap.size w w' := by
  obtain ⟨i0, hi0, hz0, hz1, hz2⟩ := info_parts2 info_PthWay infob_PthWay
  have hn : xs.length ≤ 1048576 := hz
  have hx : True := trivial
  clear hz
  obtain ⟨A, c, rfl⟩ := RdS.slice hv
  generalize hl : xs.length = n at *
  have Hl := Lib.hid hl
  have Hv := Lib.hid hv
  have Hx := Lib.hid hx
  clear hl hv hx
  go_enter Try.func21, Try.ntmps21
  go_wp2_with (at_make; refine wpList_make_full _ rfl _ _ 30 rfl 0 70 i0 _ 6 Try.underlying30 hi0 hz0 hz1 _ _ _ _ n rfl rfl rfl rfl (make_room hz2 hn) (by unfold maxLen; omega) (Nat.zero_le _) ?_; intro w1 h1 h2)
  generalize hzs : (madeCells _ (n * 6)).toList = zs at h1
  have Z := Lib.hid (show zs.length = n * 6 from h1.1)
  have F1 := Lib.hid (Fill.start (E := EPthWay) (xs := xs) h1)
  have B1 := Lib.hid ((Below.refl w.heap.size w).grown h2 (Nat.le_refl _) (by simp))
  clear h1 h2 hzs
  go_loopw [4] (fun i w2 => ∃ j : Nat, j ≤ n ∧ i = .int .i64 j ∧ Fill 70 6 EPthWay zs xs w.heap.size n j w2 ∧ Below w.heap.size w w2) (fun i _ => n - (intOf i).toNat)
  case atStart => exact ⟨0, by omega, rfl, F1.out, B1.out⟩
  case round =>
    obtain ⟨j, hj, rfl, hfi, hb⟩ := hrel
    have Hf := Lib.hid hfi
    have Hb := Lib.hid hb
    clear hfi hb
    by_cases hlt : j < n
    · obtain ⟨ad, cs, hk, rfl, hcl, hca, hE⟩ := RdS.at_ (Hv.out.below Hb.out) hlt
      have HE := Lib.hid hE
      obtain rfl := hE
      have c0 := hca.c0
      have c1 := hca.ci 0 rfl
      have c2 := hca.ci 1 rfl
      have c3 := hca.ci 2 rfl
      have c4 := hca.ci 3 rfl
      have c5 := hca.ci 4 rfl
      clear hca hcl 
      go_wp2_with fail
      refine (toPthWay_n _ xs[j] _ HE.out).mono ?_
      rintro e w3 ⟨cs', f', rfl, hE', hn', hb3⟩
      clear c0 c1 c2 c3 c4 c5
      obtain ⟨d0, e0⟩ := Hf.out.cell hb3 (p := j * 6) (by omega)
      have z0 := Hf.out.frozen hb3 (j * 6)
      obtain ⟨d1, e1⟩ := Hf.out.cell hb3 (p := j * 6 + 1) (by omega)
      have z1 := Hf.out.frozen hb3 (j * 6 + 1)
      obtain ⟨d2, e2⟩ := Hf.out.cell hb3 (p := j * 6 + 2) (by omega)
      have z2 := Hf.out.frozen hb3 (j * 6 + 2)
      obtain ⟨d3, e3⟩ := Hf.out.cell hb3 (p := j * 6 + 3) (by omega)
      have z3 := Hf.out.frozen hb3 (j * 6 + 3)
      obtain ⟨d4, e4⟩ := Hf.out.cell hb3 (p := j * 6 + 4) (by omega)
      have z4 := Hf.out.frozen hb3 (j * 6 + 4)
      obtain ⟨d5, e5⟩ := Hf.out.cell hb3 (p := j * 6 + 5) (by omega)
      have z5 := Hf.out.frozen hb3 (j * 6 + 5)
      obtain ⟨s1, s2, s3⟩ := Hf.out.step EPthWay.framed EPthWay.inside Z.out hlt hb3 (List.getElem?_eq_getElem hk) (cs := cs') (by have h := hE'.1; rw [h]; rfl) hE' hn'.1 (fun b hb' => (hn'.2 b hb').1)
      have S1 := Lib.hid s1
      have S2 := Lib.hid ((Hb.out.trans (hb3.mono Hb.out.size)).trans (s2.below (by simp) (Nat.le_trans Hb.out.size hb3.size)))
      clear s1 s2 s3
      obtain ⟨rfl, rfl⟩ := hE'
      clear hb3 hn'
      go_wp2
      exact ⟨⟨j + 1, by omega, by go_num, S1.out, S2.out⟩, by simp [intOf]; omega⟩
    · have : j = n := by omega
      subst this
      go_wp2
      go_ret
      obtain ⟨bs, h1, h2, h3⟩ := Hf.out.done Hl.out Z.out
      exact ⟨_, bs, rfl, h1, ⟨h2, fun b hb => ⟨h3 b hb, h1.inside EPthWay.inside b hb⟩⟩, Hb.out⟩

set_option maxRecDepth 100000 in
set_option maxHeartbeats 1000000 in
theorem eqPthWayS_s (u v : Value) (xs : List DPthWay) (w : World) (hu : RdPthWayS w u xs) (hv : RdPthWayS w v xs) (hz : xs.length ≤ 1048576) :
    Calls Try.prog 23 #[u, v] w fun e w' => e = .returned (.bool true) ∧ Below w.heap.size w w' := by
  have hn : xs.length ≤ 1048576 := hz
  have hx : True := trivial
  clear hz
  obtain ⟨A, c, rfl⟩ := RdS.slice hv
  obtain ⟨A', c', rfl⟩ := RdS.slice hu
  have hcv := RdS.cap hv
  have hcu := RdS.cap hu
  have Hv := Lib.hid hv
  have Hu := Lib.hid hu
  have Hx := Lib.hid hx
  clear hv hu hx
  generalize hl : xs.length = n at *
  have Hl := Lib.hid hl
  clear hl
  go_enter Try.func23, Try.ntmps23
  go_wp2
  go_loopw [5] (fun i w2 => ∃ j : Nat, j ≤ n ∧ i = .int .i64 j ∧ Below w.heap.size w w2) (fun i _ => n - (intOf i).toNat)
  case atStart => exact ⟨0, by omega, rfl, Below.refl _ _⟩
  case round =>
    obtain ⟨j, hj, rfl, hb⟩ := hrel
    have Hb := Lib.hid hb
    clear hb
    by_cases hlt : j < n
    · obtain ⟨ad, cs, hk, rfl, hcl, hca, hE⟩ := RdS.at_ (Hv.out.below Hb.out) hlt
      obtain ⟨ad', cs', hk', rfl, hcl', hca', hE'⟩ := RdS.at_ (Hu.out.below Hb.out) hlt
      have HE := Lib.hid hE
      have HE' := Lib.hid hE'
      obtain rfl := hE
      obtain rfl := hE'
      have c0 := hca.c0
      have d0 := hca'.c0
      have c1 := hca.ci 0 rfl
      have d1 := hca'.ci 0 rfl
      have c2 := hca.ci 1 rfl
      have d2 := hca'.ci 1 rfl
      have c3 := hca.ci 2 rfl
      have d3 := hca'.ci 2 rfl
      have c4 := hca.ci 3 rfl
      have d4 := hca'.ci 3 rfl
      have c5 := hca.ci 4 rfl
      have d5 := hca'.ci 4 rfl
      clear hca hcl hca' hcl' 
      go_wp2
      go_still_tail 8, (by kernel_rfl)
      go_wp2_with fail
      refine (eqPthWay_s _ _ xs[j] _ (by exact HE'.out) (by exact HE.out)).mono ?_
      rintro e w3 ⟨rfl, hb3⟩
      have Hb3 := Lib.hid (Hb.out.trans ((below_of_drew hb3).mono Hb.out.size))
      clear hb3 c0 d0 c1 d1 c2 d2 c3 d3 c4 d4 c5 d5
      go_wp2
      exact ⟨⟨j + 1, by omega, by go_num, Hb3.out⟩, by simp [intOf]; omega⟩
    · go_wp2
      go_ret
      exact ⟨rfl, Hb.out⟩

theorem cells_PthWay : Try.prog.cellsOf 120 = 6 := by kernel_rfl
set_option maxRecDepth 100000 in
theorem read_PthWay {H : Type} {enc : TypeId × Value → H} {w : World} {base : Nat} {spare : Nat → Bool} {held : Bool} (n : Nat) (cs : List Value) (y : DataW H × List MemPlace) (hcs : cs.length = 6)
    (h : DataW.trod enc Try.prog w base spare held n 120 cs = some y) : ∃ x : DPthWay, FPthWay w cs x := by
  obtain ⟨ys, n', _, _, _, hxl, hg⟩ := DataW.trod_struct Try.underlying120 h
  match cs, hcs with
  | [c0, c1, c2, c3, c4, c5], _ =>
    match ys, hxl with
    | [y0, y1, y2, y3, y4, y5], _ =>
      have h0 : DataW.trod enc Try.prog w base spare held n' 3 (([c0, c1, c2, c3, c4, c5].drop 0).take (Try.prog.cellsOf 3)) = some y0 := hg 0 _ rfl
      have h1 : DataW.trod enc Try.prog w base spare held n' 4 (([c0, c1, c2, c3, c4, c5].drop 1).take (Try.prog.cellsOf 4)) = some y1 := hg 1 _ rfl
      have h2 : DataW.trod enc Try.prog w base spare held n' 3 (([c0, c1, c2, c3, c4, c5].drop 2).take (Try.prog.cellsOf 3)) = some y2 := hg 2 _ rfl
      have h3 : DataW.trod enc Try.prog w base spare held n' 3 (([c0, c1, c2, c3, c4, c5].drop 3).take (Try.prog.cellsOf 3)) = some y3 := hg 3 _ rfl
      have h4 : DataW.trod enc Try.prog w base spare held n' 3 (([c0, c1, c2, c3, c4, c5].drop 4).take (Try.prog.cellsOf 3)) = some y4 := hg 4 _ rfl
      have h5 : DataW.trod enc Try.prog w base spare held n' 3 (([c0, c1, c2, c3, c4, c5].drop 5).take (Try.prog.cellsOf 3)) = some y5 := hg 5 _ rfl
      simp only [cellsInt, cellsBool, List.drop_zero, List.drop_succ_cons, List.take_succ_cons, List.take_zero] at h0 h1 h2 h3 h4 h5
      obtain ⟨a0, rfl⟩ := intCell h0
      obtain ⟨a1, rfl⟩ := boolCell h1
      obtain ⟨a2, rfl⟩ := intCell h2
      obtain ⟨a3, rfl⟩ := intCell h3
      obtain ⟨a4, rfl⟩ := intCell h4
      obtain ⟨a5, rfl⟩ := intCell h5
      exact ⟨⟨a0, a1, a2, a3, a4, a5⟩, rfl⟩
theorem cells_PthWayS : Try.prog.cellsOf 27 = 1 := by kernel_rfl
end Go.Proofs.Ytbceikhmoblacaa
