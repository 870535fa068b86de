/-
  Is an end of a line ok? The program's contract. (Written by wip/tools/genascok.py.)
-/
import Derived.Test.YthdjjgbjemaabaaAscOkF
import Derived.Laws.EntriesVeiled
import Derived.Deep.WholeRow
import Derived.BigQuiet
namespace Go.Proofs.Ythdjjgbjemaabaa
open Go.ChangeShapes Go.WideShapes Go.ChangeAt Go.RowKit
set_option linter.unusedVariables false
set_option linter.unusedSimpArgs false


theorem wpList_store_new {P : Program} {ops : Array Oper} {rest : List Oper} {o : Oper} {a : Act} {Q : Exit → Act → World → Prop} (w : World) (hgd : o.guard = none) (t : TypeId) (p x : Operand)
    (ho : o.op = .store t p x) {c c' : Array Value} (hp : a.eval p = .pointer (some ⟨w.heap.size, 0, none⟩)) (hx : a.eval x = .agg c') (hi : (P.info? t).map (·.size) = some c'.size) (hs : c.size = c'.size) (h1 : c'.all (·.oneCell') = true)
    (h : wpList P ops Q rest (a.put o.dst undef) (w.alloc (.cells c' t))) :
    wpList P ops Q (o :: rest) a (w.alloc (.cells c t)) := by
  refine wpList_plain hgd fun K hK => ?_
  unfold Oper.wp execOp
  simp only [ho, Sem.run_bind, Sem.run_pure, Result.andThen_ok, hp, hx, run_storeAt_new (P := P) w t c c' hi hs h1]
  exact hK _ _ h
theorem results_row1 {P : Program} {fn : Func} {r : Tmp} {t : TypeId} {tmps : Array Value} {W : World} {p : Addr} {v : Value} (hf : fn.results = #[.cell r t]) (hp : tmps[r]?.getD undef = .pointer (some p)) (hl : (loadVar t p).run P W = .ok v W) : (results fn tmps).run P W = .ok v W := by
  unfold results
  rw [hf]
  simp [hp, asAddr, hl]
set_option maxRecDepth 100000 in
set_option maxHeartbeats 400000 in
theorem ascStates_any (w : World) : Calls Try.prog 237 #[] w fun e w' => e = .returned (.agg #[.func (.func 293) #[] #[], .func (.func 294) #[] #[], .func (.func 295) #[] #[], .func (.func 296) #[] #[], .func (.func 297) #[] #[], .func (.func 162) #[] #[], .func (.func 298) #[] #[], .func (.func 299) #[] #[], .func (.func 300) #[] #[], .func (.func 301) #[] #[], .func (.func 302) #[] #[], .func (.func 295) #[] #[], .func (.func 303) #[] #[], .func (.func 304) #[] #[], .func (.func 154) #[] #[], .func (.func 303) #[] #[], .func (.func 305) #[] #[], .func (.func 306) #[] #[]]) ∧ Below w.heap.size w w' := by
  have hi : (Try.prog.info? 264).map (·.size) = some 18 := by kernel_rfl
  have HB := Lib.hid ((Below.refl w.heap.size w).alloc (Nat.le_refl _) (.cells #[.func (.func 293) #[] #[], .func (.func 294) #[] #[], .func (.func 295) #[] #[], .func (.func 296) #[] #[], .func (.func 297) #[] #[], .func (.func 162) #[] #[], .func (.func 298) #[] #[], .func (.func 299) #[] #[], .func (.func 300) #[] #[], .func (.func 301) #[] #[], .func (.func 302) #[] #[], .func (.func 295) #[] #[], .func (.func 303) #[] #[], .func (.func 304) #[] #[], .func (.func 154) #[] #[], .func (.func 303) #[] #[], .func (.func 305) #[] #[], .func (.func 306) #[] #[]] 264))
  go_enter Try.func237, Try.ntmps237
  go_wp2_with (refine wpList_store_new _ rfl 264 (.tmp 0) (.tmp 7) rfl rfl rfl hi rfl (by kernel_rfl) ?_)
  have hl := run_loadVar_new (P := Try.prog) w 264 #[.func (.func 293) #[] #[], .func (.func 294) #[] #[], .func (.func 295) #[] #[], .func (.func 296) #[] #[], .func (.func 297) #[] #[], .func (.func 162) #[] #[], .func (.func 298) #[] #[], .func (.func 299) #[] #[], .func (.func 300) #[] #[], .func (.func 301) #[] #[], .func (.func 302) #[] #[], .func (.func 295) #[] #[], .func (.func 303) #[] #[], .func (.func 304) #[] #[], .func (.func 154) #[] #[], .func (.func 303) #[] #[], .func (.func 305) #[] #[], .func (.func 306) #[] #[]] 6 263 (by kernel_rfl) (by kernel_rfl)
  exact bodyPost_ret (v := .agg #[.func (.func 293) #[] #[], .func (.func 294) #[] #[], .func (.func 295) #[] #[], .func (.func 296) #[] #[], .func (.func 297) #[] #[], .func (.func 162) #[] #[], .func (.func 298) #[] #[], .func (.func 299) #[] #[], .func (.func 300) #[] #[], .func (.func 301) #[] #[], .func (.func 302) #[] #[], .func (.func 295) #[] #[], .func (.func 303) #[] #[], .func (.func 304) #[] #[], .func (.func 154) #[] #[], .func (.func 303) #[] #[], .func (.func 305) #[] #[], .func (.func 306) #[] #[]]) (results_row1 Try.results237 rfl hl) rfl ⟨rfl, HB.out⟩
set_option maxRecDepth 100000 in
set_option maxHeartbeats 8000000 in
theorem implAscEndOk_any (me pe se wi la st ta pt ts ps sm : Int) (A : Option Addr) (n c : Nat) (tr le : Int) (hc : n ≤ c ∧ c ≤ 9223372036854775807) (w : World) : Calls Try.prog 149 #[.agg #[.int .i64 me, .int .i64 pe, .int .i64 se, .int .i64 wi, .int .i64 la, .int .i64 st, .int .i64 ta, .int .i64 pt, .int .i64 ts, .int .i64 ps, .int .i64 sm, .slice A n c, .int .i64 tr, .int .i64 le]] w fun e w' => e = .returned (.bool (ascOkA me pe se wi la st ta pt ts ps sm n tr le)) ∧ Below w.heap.size w w' := by
  have K := Lib.hid (Blk.new (w := w) (b := w.heap.size) #[.int .i64 me, .int .i64 pe, .int .i64 se, .int .i64 wi, .int .i64 la, .int .i64 st, .int .i64 ta, .int .i64 pt, .int .i64 ts, .int .i64 ps, .int .i64 sm, .slice A n c, .int .i64 tr, .int .i64 le] 67 rfl)
  have HB := Lib.hid ((Below.refl w.heap.size w).alloc (Nat.le_refl _) (.cells #[.int .i64 me, .int .i64 pe, .int .i64 se, .int .i64 wi, .int .i64 la, .int .i64 st, .int .i64 ta, .int .i64 pt, .int .i64 ts, .int .i64 ps, .int .i64 sm, .slice A n c, .int .i64 tr, .int .i64 le] 67))
  rcases h1 : inB me 0 65535 with _ | _
  · go_enter Try.func149, Try.ntmps149
    go_wp2_with (first | (go_at_call 103; refine (frmShort_any _ _).mono ?_; rintro e w' ⟨rfl, rfl⟩) | (go_at_call 151; refine (frmLong_any _ _).mono ?_; rintro e w' ⟨rfl, rfl⟩) | (go_at_call 104; refine (frmIn_any _ _ _ _).mono ?_; rintro e w' ⟨rfl, rfl⟩))
    go_ret
    exact ⟨ret_bool (by simp [ascOkA, h1]), HB.out⟩
  rcases h2 : inB pe 0 65535 with _ | _
  · go_enter Try.func149, Try.ntmps149
    go_wp2_with (first | (go_at_call 103; refine (frmShort_any _ _).mono ?_; rintro e w' ⟨rfl, rfl⟩) | (go_at_call 151; refine (frmLong_any _ _).mono ?_; rintro e w' ⟨rfl, rfl⟩) | (go_at_call 104; refine (frmIn_any _ _ _ _).mono ?_; rintro e w' ⟨rfl, rfl⟩))
    go_ret
    exact ⟨ret_bool (by simp [ascOkA, h2]), HB.out⟩
  rcases e3 : (me == pe) with _ | _
  rotate_left
  · go_enter Try.func149, Try.ntmps149
    go_wp2_with (first | (go_at_call 103; refine (frmShort_any _ _).mono ?_; rintro e w' ⟨rfl, rfl⟩) | (go_at_call 151; refine (frmLong_any _ _).mono ?_; rintro e w' ⟨rfl, rfl⟩) | (go_at_call 104; refine (frmIn_any _ _ _ _).mono ?_; rintro e w' ⟨rfl, rfl⟩))
    go_ret
    exact ⟨ret_bool (by have h3 : me = pe := (by simpa using e3)
                        simp [ascOkA, h3]), HB.out⟩
  have H3 := Lib.hid (show ¬ me = pe by simpa using e3)
  rcases h4 : inB la 0 4294967295 with _ | _
  · go_enter Try.func149, Try.ntmps149
    go_wp2_with (first | (go_at_call 103; refine (frmShort_any _ _).mono ?_; rintro e w' ⟨rfl, rfl⟩) | (go_at_call 151; refine (frmLong_any _ _).mono ?_; rintro e w' ⟨rfl, rfl⟩) | (go_at_call 104; refine (frmIn_any _ _ _ _).mono ?_; rintro e w' ⟨rfl, rfl⟩))
    go_ret
    exact ⟨ret_bool (by simp [ascOkA, h4]), HB.out⟩
  rcases h5 : inB se 1 2147483646 with _ | _
  · go_enter Try.func149, Try.ntmps149
    go_wp2_with (first | (go_at_call 103; refine (frmShort_any _ _).mono ?_; rintro e w' ⟨rfl, rfl⟩) | (go_at_call 151; refine (frmLong_any _ _).mono ?_; rintro e w' ⟨rfl, rfl⟩) | (go_at_call 104; refine (frmIn_any _ _ _ _).mono ?_; rintro e w' ⟨rfl, rfl⟩))
    go_ret
    exact ⟨ret_bool (by simp [ascOkA, h5]), HB.out⟩
  rcases h6 : inB wi 1 8 with _ | _
  · go_enter Try.func149, Try.ntmps149
    go_wp2_with (first | (go_at_call 103; refine (frmShort_any _ _).mono ?_; rintro e w' ⟨rfl, rfl⟩) | (go_at_call 151; refine (frmLong_any _ _).mono ?_; rintro e w' ⟨rfl, rfl⟩) | (go_at_call 104; refine (frmIn_any _ _ _ _).mono ?_; rintro e w' ⟨rfl, rfl⟩))
    go_ret
    exact ⟨ret_bool (by simp [ascOkA, h6]), HB.out⟩
  have hst : st = 0 ∨ st = 1 ∨ st = 2 ∨ st = 3 ∨ st = 4 ∨ st = 5 ∨ (st < 0 ∨ 5 < st) := by omega
  rcases hst with rfl | rfl | rfl | rfl | rfl | rfl | hst
  · go_enter Try.func149, Try.ntmps149
    go_wp2_with (first | (go_at_call 103; refine (frmShort_any _ _).mono ?_; rintro e w' ⟨rfl, rfl⟩) | (go_at_call 151; refine (frmLong_any _ _).mono ?_; rintro e w' ⟨rfl, rfl⟩) | (go_at_call 104; refine (frmIn_any _ _ _ _).mono ?_; rintro e w' ⟨rfl, rfl⟩))
    refine wp_region_steady (fun y => Blk y w.heap.size [.int .i64 me, .int .i64 pe, .int .i64 se, .int .i64 wi, .int .i64 la, .int .i64 0, .int .i64 ta, .int .i64 pt, .int .i64 ts, .int .i64 ps, .int .i64 sm, .slice A n c, .int .i64 tr, .int .i64 le] ∧ Below w.heap.size w y) (by kernel_rfl) (by kernel_rfl) (⟨K.out.drew, HB.out.drew⟩) ?_
    refine steady_call (f := 237) (args := #[]) (.agg #[.func (.func 293) #[] #[], .func (.func 294) #[] #[], .func (.func 295) #[] #[], .func (.func 296) #[] #[], .func (.func 297) #[] #[], .func (.func 162) #[] #[], .func (.func 298) #[] #[], .func (.func 299) #[] #[], .func (.func 300) #[] #[], .func (.func 301) #[] #[], .func (.func 302) #[] #[], .func (.func 295) #[] #[], .func (.func 303) #[] #[], .func (.func 304) #[] #[], .func (.func 154) #[] #[], .func (.func 303) #[] #[], .func (.func 305) #[] #[], .func (.func 306) #[] #[]]) (by rfl) (fun y hS => by go_simp) (fun y hS => by refine (ascStates_any y).mono ?_; rintro e y' ⟨rfl, b⟩; exact ⟨rfl, hS.1.keep b, belowOn hS.2 hS.2.size b⟩) ?_
    simp only [Act.put, List.setIfInBounds_toArray, List.set_cons_zero, List.set_cons_succ]
    iterate 2
      (refine' steady_val (v := _) (by rfl) ?_ ?_
       rotate_left
       focus (intro y hS; have k0 := hS.1.at (i := 0) rfl; have k1 := hS.1.at (i := 1) rfl; have k2 := hS.1.at (i := 2) rfl; have k3 := hS.1.at (i := 3) rfl; have k4 := hS.1.at (i := 4) rfl; have k5 := hS.1.at (i := 5) rfl; have k6 := hS.1.at (i := 6) rfl; have k7 := hS.1.at (i := 7) rfl; have k8 := hS.1.at (i := 8) rfl; have k9 := hS.1.at (i := 9) rfl; have k10 := hS.1.at (i := 10) rfl; have k11 := hS.1.at (i := 11) rfl; have k12 := hS.1.at (i := 12) rfl; have k13 := hS.1.at (i := 13) rfl; clear hS; go_simp; first | done | with_reducible rfl)
       simp only [Act.put, List.setIfInBounds_toArray, List.set_cons_zero, List.set_cons_succ])
    refine steady_val (v := .agg #[.func (.func 293) #[] #[], .func (.func 294) #[] #[], .func (.func 295) #[] #[]]) (by rfl) (fun y hS => by kernel_rfl) ?_
    simp only [Act.put, List.setIfInBounds_toArray, List.set_cons_zero, List.set_cons_succ]
    refine steady_val (v := .func (.func 293) #[] #[]) (by rfl) (fun y hS => by kernel_rfl) ?_
    simp only [Act.put, List.setIfInBounds_toArray, List.set_cons_zero, List.set_cons_succ]
    refine' steady_val (v := _) (by rfl) ?_ ?_
    rotate_left
    focus (intro y hS; have k0 := hS.1.at (i := 0) rfl; have k1 := hS.1.at (i := 1) rfl; have k2 := hS.1.at (i := 2) rfl; have k3 := hS.1.at (i := 3) rfl; have k4 := hS.1.at (i := 4) rfl; have k5 := hS.1.at (i := 5) rfl; have k6 := hS.1.at (i := 6) rfl; have k7 := hS.1.at (i := 7) rfl; have k8 := hS.1.at (i := 8) rfl; have k9 := hS.1.at (i := 9) rfl; have k10 := hS.1.at (i := 10) rfl; have k11 := hS.1.at (i := 11) rfl; have k12 := hS.1.at (i := 12) rfl; have k13 := hS.1.at (i := 13) rfl; clear hS; go_simp; first | done | with_reducible rfl)
    simp only [Act.put, List.setIfInBounds_toArray, List.set_cons_zero, List.set_cons_succ]
    refine steady_call (f := 293) (args := #[.agg #[.int .i64 me, .int .i64 pe, .int .i64 se, .int .i64 wi, .int .i64 la, .int .i64 0, .int .i64 ta, .int .i64 pt, .int .i64 ts, .int .i64 ps, .int .i64 sm, .slice A n c, .int .i64 tr, .int .i64 le]]) (.bool (decide (ta = 0) && (decide (ts = 0) && (puF pt ps sm n && ncF tr le)))) (by rfl) (fun y hS => by kernel_rfl) (fun y hS => by refine (ascClosedFits_any _ _ _ _ _ _ _ _ _ _ _ _ _ _ _ _ hc y).mono ?_; rintro e y' ⟨rfl, b⟩; exact ⟨rfl, hS.1.keep b, belowOn hS.2 hS.2.size b⟩) ?_
    simp only [Act.put, List.setIfInBounds_toArray, List.set_cons_zero, List.set_cons_succ]
    repeat
      (first
        | (refine steady_no (by rfl) ?_)
        | (refine' steady_val (v := _) (by rfl) ?_ ?_
           rotate_left
           focus (intro y hS; have k0 := hS.1.at (i := 0) rfl; have k1 := hS.1.at (i := 1) rfl; have k2 := hS.1.at (i := 2) rfl; have k3 := hS.1.at (i := 3) rfl; have k4 := hS.1.at (i := 4) rfl; have k5 := hS.1.at (i := 5) rfl; have k6 := hS.1.at (i := 6) rfl; have k7 := hS.1.at (i := 7) rfl; have k8 := hS.1.at (i := 8) rfl; have k9 := hS.1.at (i := 9) rfl; have k10 := hS.1.at (i := 10) rfl; have k11 := hS.1.at (i := 11) rfl; have k12 := hS.1.at (i := 12) rfl; have k13 := hS.1.at (i := 13) rfl; clear hS; go_simp; first | done | with_reducible rfl))
        | (refine' steady_call (f := _) (args := _) _ (by rfl) ?_ ?_ ?_
           rotate_left 3
           focus (intro y hS; have k0 := hS.1.at (i := 0) rfl; have k1 := hS.1.at (i := 1) rfl; have k2 := hS.1.at (i := 2) rfl; have k3 := hS.1.at (i := 3) rfl; have k4 := hS.1.at (i := 4) rfl; have k5 := hS.1.at (i := 5) rfl; have k6 := hS.1.at (i := 6) rfl; have k7 := hS.1.at (i := 7) rfl; have k8 := hS.1.at (i := 8) rfl; have k9 := hS.1.at (i := 9) rfl; have k10 := hS.1.at (i := 10) rfl; have k11 := hS.1.at (i := 11) rfl; have k12 := hS.1.at (i := 12) rfl; have k13 := hS.1.at (i := 13) rfl; clear hS; go_simp; first | done | with_reducible rfl | (refine ⟨?_, ?_⟩ <;> with_reducible rfl))
           focus (intro y hS; first
            | (refine (ascStates_any y).mono ?_; rintro e y' ⟨rfl, b⟩; exact ⟨rfl, hS.1.keep b, belowOn hS.2 hS.2.size b⟩)
            | (refine (ascClosedFits_any _ _ _ _ _ _ _ _ _ _ _ _ _ _ _ _ hc y).mono ?_; rintro e y' ⟨rfl, b⟩; exact ⟨rfl, hS.1.keep b, belowOn hS.2 hS.2.size b⟩)))
       simp only [Act.put, List.setIfInBounds_toArray, List.set_cons_zero, List.set_cons_succ])
    refine steady_nil ?_
    intro w3 hS3
    have Hfin := Lib.hid hS3.2
    clear hS3
    go_wp2
    go_ret
    exact ⟨ret_bool (by have h3 := H3.out; have h4a := inB_iff.1 h4; have h6a := inB_iff.1 h6; rw [Bool.eq_iff_iff]; first | (simp [ascOkA, stA, timedA, tagA, pairA, puF, pkF, ncF, ieF, beF, inB_iff, h1, h2, h3, h4, h5, h6]; done) | (simp [ascOkA, stA, timedA, tagA, pairA, puF, pkF, ncF, ieF, beF, inB_iff, h1, h2, h3, h4, h5, h6]; omega)), Hfin.out⟩
  · go_enter Try.func149, Try.ntmps149
    go_wp2_with (first | (go_at_call 103; refine (frmShort_any _ _).mono ?_; rintro e w' ⟨rfl, rfl⟩) | (go_at_call 151; refine (frmLong_any _ _).mono ?_; rintro e w' ⟨rfl, rfl⟩) | (go_at_call 104; refine (frmIn_any _ _ _ _).mono ?_; rintro e w' ⟨rfl, rfl⟩))
    refine wp_region_steady (fun y => Blk y w.heap.size [.int .i64 me, .int .i64 pe, .int .i64 se, .int .i64 wi, .int .i64 la, .int .i64 1, .int .i64 ta, .int .i64 pt, .int .i64 ts, .int .i64 ps, .int .i64 sm, .slice A n c, .int .i64 tr, .int .i64 le] ∧ Below w.heap.size w y) (by kernel_rfl) (by kernel_rfl) (⟨K.out.drew, HB.out.drew⟩) ?_
    refine steady_call (f := 237) (args := #[]) (.agg #[.func (.func 293) #[] #[], .func (.func 294) #[] #[], .func (.func 295) #[] #[], .func (.func 296) #[] #[], .func (.func 297) #[] #[], .func (.func 162) #[] #[], .func (.func 298) #[] #[], .func (.func 299) #[] #[], .func (.func 300) #[] #[], .func (.func 301) #[] #[], .func (.func 302) #[] #[], .func (.func 295) #[] #[], .func (.func 303) #[] #[], .func (.func 304) #[] #[], .func (.func 154) #[] #[], .func (.func 303) #[] #[], .func (.func 305) #[] #[], .func (.func 306) #[] #[]]) (by rfl) (fun y hS => by go_simp) (fun y hS => by refine (ascStates_any y).mono ?_; rintro e y' ⟨rfl, b⟩; exact ⟨rfl, hS.1.keep b, belowOn hS.2 hS.2.size b⟩) ?_
    simp only [Act.put, List.setIfInBounds_toArray, List.set_cons_zero, List.set_cons_succ]
    iterate 2
      (refine' steady_val (v := _) (by rfl) ?_ ?_
       rotate_left
       focus (intro y hS; have k0 := hS.1.at (i := 0) rfl; have k1 := hS.1.at (i := 1) rfl; have k2 := hS.1.at (i := 2) rfl; have k3 := hS.1.at (i := 3) rfl; have k4 := hS.1.at (i := 4) rfl; have k5 := hS.1.at (i := 5) rfl; have k6 := hS.1.at (i := 6) rfl; have k7 := hS.1.at (i := 7) rfl; have k8 := hS.1.at (i := 8) rfl; have k9 := hS.1.at (i := 9) rfl; have k10 := hS.1.at (i := 10) rfl; have k11 := hS.1.at (i := 11) rfl; have k12 := hS.1.at (i := 12) rfl; have k13 := hS.1.at (i := 13) rfl; clear hS; go_simp; first | done | with_reducible rfl)
       simp only [Act.put, List.setIfInBounds_toArray, List.set_cons_zero, List.set_cons_succ])
    refine steady_val (v := .agg #[.func (.func 296) #[] #[], .func (.func 297) #[] #[], .func (.func 162) #[] #[]]) (by rfl) (fun y hS => by kernel_rfl) ?_
    simp only [Act.put, List.setIfInBounds_toArray, List.set_cons_zero, List.set_cons_succ]
    refine steady_val (v := .func (.func 296) #[] #[]) (by rfl) (fun y hS => by kernel_rfl) ?_
    simp only [Act.put, List.setIfInBounds_toArray, List.set_cons_zero, List.set_cons_succ]
    refine' steady_val (v := _) (by rfl) ?_ ?_
    rotate_left
    focus (intro y hS; have k0 := hS.1.at (i := 0) rfl; have k1 := hS.1.at (i := 1) rfl; have k2 := hS.1.at (i := 2) rfl; have k3 := hS.1.at (i := 3) rfl; have k4 := hS.1.at (i := 4) rfl; have k5 := hS.1.at (i := 5) rfl; have k6 := hS.1.at (i := 6) rfl; have k7 := hS.1.at (i := 7) rfl; have k8 := hS.1.at (i := 8) rfl; have k9 := hS.1.at (i := 9) rfl; have k10 := hS.1.at (i := 10) rfl; have k11 := hS.1.at (i := 11) rfl; have k12 := hS.1.at (i := 12) rfl; have k13 := hS.1.at (i := 13) rfl; clear hS; go_simp; first | done | with_reducible rfl)
    simp only [Act.put, List.setIfInBounds_toArray, List.set_cons_zero, List.set_cons_succ]
    refine steady_call (f := 296) (args := #[.agg #[.int .i64 me, .int .i64 pe, .int .i64 se, .int .i64 wi, .int .i64 la, .int .i64 1, .int .i64 ta, .int .i64 pt, .int .i64 ts, .int .i64 ps, .int .i64 sm, .slice A n c, .int .i64 tr, .int .i64 le]]) (.bool (beF la ta ts tr le && puF pt ps sm n)) (by rfl) (fun y hS => by kernel_rfl) (fun y hS => by refine (ascWaitsFits_any _ _ _ _ _ _ _ _ _ _ _ _ _ _ _ _ hc y).mono ?_; rintro e y' ⟨rfl, b⟩; exact ⟨rfl, hS.1.keep b, belowOn hS.2 hS.2.size b⟩) ?_
    simp only [Act.put, List.setIfInBounds_toArray, List.set_cons_zero, List.set_cons_succ]
    repeat
      (first
        | (refine steady_no (by rfl) ?_)
        | (refine' steady_val (v := _) (by rfl) ?_ ?_
           rotate_left
           focus (intro y hS; have k0 := hS.1.at (i := 0) rfl; have k1 := hS.1.at (i := 1) rfl; have k2 := hS.1.at (i := 2) rfl; have k3 := hS.1.at (i := 3) rfl; have k4 := hS.1.at (i := 4) rfl; have k5 := hS.1.at (i := 5) rfl; have k6 := hS.1.at (i := 6) rfl; have k7 := hS.1.at (i := 7) rfl; have k8 := hS.1.at (i := 8) rfl; have k9 := hS.1.at (i := 9) rfl; have k10 := hS.1.at (i := 10) rfl; have k11 := hS.1.at (i := 11) rfl; have k12 := hS.1.at (i := 12) rfl; have k13 := hS.1.at (i := 13) rfl; clear hS; go_simp; first | done | with_reducible rfl))
        | (refine' steady_call (f := _) (args := _) _ (by rfl) ?_ ?_ ?_
           rotate_left 3
           focus (intro y hS; have k0 := hS.1.at (i := 0) rfl; have k1 := hS.1.at (i := 1) rfl; have k2 := hS.1.at (i := 2) rfl; have k3 := hS.1.at (i := 3) rfl; have k4 := hS.1.at (i := 4) rfl; have k5 := hS.1.at (i := 5) rfl; have k6 := hS.1.at (i := 6) rfl; have k7 := hS.1.at (i := 7) rfl; have k8 := hS.1.at (i := 8) rfl; have k9 := hS.1.at (i := 9) rfl; have k10 := hS.1.at (i := 10) rfl; have k11 := hS.1.at (i := 11) rfl; have k12 := hS.1.at (i := 12) rfl; have k13 := hS.1.at (i := 13) rfl; clear hS; go_simp; first | done | with_reducible rfl | (refine ⟨?_, ?_⟩ <;> with_reducible rfl))
           focus (intro y hS; first
            | (refine (ascStates_any y).mono ?_; rintro e y' ⟨rfl, b⟩; exact ⟨rfl, hS.1.keep b, belowOn hS.2 hS.2.size b⟩)
            | (refine (ascWaitsFits_any _ _ _ _ _ _ _ _ _ _ _ _ _ _ _ _ hc y).mono ?_; rintro e y' ⟨rfl, b⟩; exact ⟨rfl, hS.1.keep b, belowOn hS.2 hS.2.size b⟩)))
       simp only [Act.put, List.setIfInBounds_toArray, List.set_cons_zero, List.set_cons_succ])
    refine steady_nil ?_
    intro w3 hS3
    have Hfin := Lib.hid hS3.2
    clear hS3
    go_wp2
    go_ret
    exact ⟨ret_bool (by have h3 := H3.out; have h4a := inB_iff.1 h4; have h6a := inB_iff.1 h6; rw [Bool.eq_iff_iff]; first | (simp [ascOkA, stA, timedA, tagA, pairA, puF, pkF, ncF, ieF, beF, inB_iff, h1, h2, h3, h4, h5, h6]; done) | (simp [ascOkA, stA, timedA, tagA, pairA, puF, pkF, ncF, ieF, beF, inB_iff, h1, h2, h3, h4, h5, h6]; omega)), Hfin.out⟩
  · go_enter Try.func149, Try.ntmps149
    go_wp2_with (first | (go_at_call 103; refine (frmShort_any _ _).mono ?_; rintro e w' ⟨rfl, rfl⟩) | (go_at_call 151; refine (frmLong_any _ _).mono ?_; rintro e w' ⟨rfl, rfl⟩) | (go_at_call 104; refine (frmIn_any _ _ _ _).mono ?_; rintro e w' ⟨rfl, rfl⟩))
    refine wp_region_steady (fun y => Blk y w.heap.size [.int .i64 me, .int .i64 pe, .int .i64 se, .int .i64 wi, .int .i64 la, .int .i64 2, .int .i64 ta, .int .i64 pt, .int .i64 ts, .int .i64 ps, .int .i64 sm, .slice A n c, .int .i64 tr, .int .i64 le] ∧ Below w.heap.size w y) (by kernel_rfl) (by kernel_rfl) (⟨K.out.drew, HB.out.drew⟩) ?_
    refine steady_call (f := 237) (args := #[]) (.agg #[.func (.func 293) #[] #[], .func (.func 294) #[] #[], .func (.func 295) #[] #[], .func (.func 296) #[] #[], .func (.func 297) #[] #[], .func (.func 162) #[] #[], .func (.func 298) #[] #[], .func (.func 299) #[] #[], .func (.func 300) #[] #[], .func (.func 301) #[] #[], .func (.func 302) #[] #[], .func (.func 295) #[] #[], .func (.func 303) #[] #[], .func (.func 304) #[] #[], .func (.func 154) #[] #[], .func (.func 303) #[] #[], .func (.func 305) #[] #[], .func (.func 306) #[] #[]]) (by rfl) (fun y hS => by go_simp) (fun y hS => by refine (ascStates_any y).mono ?_; rintro e y' ⟨rfl, b⟩; exact ⟨rfl, hS.1.keep b, belowOn hS.2 hS.2.size b⟩) ?_
    simp only [Act.put, List.setIfInBounds_toArray, List.set_cons_zero, List.set_cons_succ]
    iterate 2
      (refine' steady_val (v := _) (by rfl) ?_ ?_
       rotate_left
       focus (intro y hS; have k0 := hS.1.at (i := 0) rfl; have k1 := hS.1.at (i := 1) rfl; have k2 := hS.1.at (i := 2) rfl; have k3 := hS.1.at (i := 3) rfl; have k4 := hS.1.at (i := 4) rfl; have k5 := hS.1.at (i := 5) rfl; have k6 := hS.1.at (i := 6) rfl; have k7 := hS.1.at (i := 7) rfl; have k8 := hS.1.at (i := 8) rfl; have k9 := hS.1.at (i := 9) rfl; have k10 := hS.1.at (i := 10) rfl; have k11 := hS.1.at (i := 11) rfl; have k12 := hS.1.at (i := 12) rfl; have k13 := hS.1.at (i := 13) rfl; clear hS; go_simp; first | done | with_reducible rfl)
       simp only [Act.put, List.setIfInBounds_toArray, List.set_cons_zero, List.set_cons_succ])
    refine steady_val (v := .agg #[.func (.func 298) #[] #[], .func (.func 299) #[] #[], .func (.func 300) #[] #[]]) (by rfl) (fun y hS => by kernel_rfl) ?_
    simp only [Act.put, List.setIfInBounds_toArray, List.set_cons_zero, List.set_cons_succ]
    refine steady_val (v := .func (.func 298) #[] #[]) (by rfl) (fun y hS => by kernel_rfl) ?_
    simp only [Act.put, List.setIfInBounds_toArray, List.set_cons_zero, List.set_cons_succ]
    refine' steady_val (v := _) (by rfl) ?_ ?_
    rotate_left
    focus (intro y hS; have k0 := hS.1.at (i := 0) rfl; have k1 := hS.1.at (i := 1) rfl; have k2 := hS.1.at (i := 2) rfl; have k3 := hS.1.at (i := 3) rfl; have k4 := hS.1.at (i := 4) rfl; have k5 := hS.1.at (i := 5) rfl; have k6 := hS.1.at (i := 6) rfl; have k7 := hS.1.at (i := 7) rfl; have k8 := hS.1.at (i := 8) rfl; have k9 := hS.1.at (i := 9) rfl; have k10 := hS.1.at (i := 10) rfl; have k11 := hS.1.at (i := 11) rfl; have k12 := hS.1.at (i := 12) rfl; have k13 := hS.1.at (i := 13) rfl; clear hS; go_simp; first | done | with_reducible rfl)
    simp only [Act.put, List.setIfInBounds_toArray, List.set_cons_zero, List.set_cons_succ]
    refine steady_call (f := 298) (args := #[.agg #[.int .i64 me, .int .i64 pe, .int .i64 se, .int .i64 wi, .int .i64 la, .int .i64 2, .int .i64 ta, .int .i64 pt, .int .i64 ts, .int .i64 ps, .int .i64 sm, .slice A n c, .int .i64 tr, .int .i64 le]]) (.bool (beF la ta ts tr le && (pkF wi pt ps sm && inB (n : Int) 1 64))) (by rfl) (fun y hS => by kernel_rfl) (fun y hS => by refine (ascEchoesFits_any _ _ _ _ _ _ _ _ _ _ _ _ _ _ _ _ hc y).mono ?_; rintro e y' ⟨rfl, b⟩; exact ⟨rfl, hS.1.keep b, belowOn hS.2 hS.2.size b⟩) ?_
    simp only [Act.put, List.setIfInBounds_toArray, List.set_cons_zero, List.set_cons_succ]
    repeat
      (first
        | (refine steady_no (by rfl) ?_)
        | (refine' steady_val (v := _) (by rfl) ?_ ?_
           rotate_left
           focus (intro y hS; have k0 := hS.1.at (i := 0) rfl; have k1 := hS.1.at (i := 1) rfl; have k2 := hS.1.at (i := 2) rfl; have k3 := hS.1.at (i := 3) rfl; have k4 := hS.1.at (i := 4) rfl; have k5 := hS.1.at (i := 5) rfl; have k6 := hS.1.at (i := 6) rfl; have k7 := hS.1.at (i := 7) rfl; have k8 := hS.1.at (i := 8) rfl; have k9 := hS.1.at (i := 9) rfl; have k10 := hS.1.at (i := 10) rfl; have k11 := hS.1.at (i := 11) rfl; have k12 := hS.1.at (i := 12) rfl; have k13 := hS.1.at (i := 13) rfl; clear hS; go_simp; first | done | with_reducible rfl))
        | (refine' steady_call (f := _) (args := _) _ (by rfl) ?_ ?_ ?_
           rotate_left 3
           focus (intro y hS; have k0 := hS.1.at (i := 0) rfl; have k1 := hS.1.at (i := 1) rfl; have k2 := hS.1.at (i := 2) rfl; have k3 := hS.1.at (i := 3) rfl; have k4 := hS.1.at (i := 4) rfl; have k5 := hS.1.at (i := 5) rfl; have k6 := hS.1.at (i := 6) rfl; have k7 := hS.1.at (i := 7) rfl; have k8 := hS.1.at (i := 8) rfl; have k9 := hS.1.at (i := 9) rfl; have k10 := hS.1.at (i := 10) rfl; have k11 := hS.1.at (i := 11) rfl; have k12 := hS.1.at (i := 12) rfl; have k13 := hS.1.at (i := 13) rfl; clear hS; go_simp; first | done | with_reducible rfl | (refine ⟨?_, ?_⟩ <;> with_reducible rfl))
           focus (intro y hS; first
            | (refine (ascStates_any y).mono ?_; rintro e y' ⟨rfl, b⟩; exact ⟨rfl, hS.1.keep b, belowOn hS.2 hS.2.size b⟩)
            | (refine (ascEchoesFits_any _ _ _ _ _ _ _ _ _ _ _ _ _ _ _ _ hc y).mono ?_; rintro e y' ⟨rfl, b⟩; exact ⟨rfl, hS.1.keep b, belowOn hS.2 hS.2.size b⟩)))
       simp only [Act.put, List.setIfInBounds_toArray, List.set_cons_zero, List.set_cons_succ])
    refine steady_nil ?_
    intro w3 hS3
    have Hfin := Lib.hid hS3.2
    clear hS3
    go_wp2
    go_ret
    exact ⟨ret_bool (by have h3 := H3.out; have h4a := inB_iff.1 h4; have h6a := inB_iff.1 h6; rw [Bool.eq_iff_iff]; first | (simp [ascOkA, stA, timedA, tagA, pairA, puF, pkF, ncF, ieF, beF, inB_iff, h1, h2, h3, h4, h5, h6]; done) | (simp [ascOkA, stA, timedA, tagA, pairA, puF, pkF, ncF, ieF, beF, inB_iff, h1, h2, h3, h4, h5, h6]; omega)), Hfin.out⟩
  · go_enter Try.func149, Try.ntmps149
    go_wp2_with (first | (go_at_call 103; refine (frmShort_any _ _).mono ?_; rintro e w' ⟨rfl, rfl⟩) | (go_at_call 151; refine (frmLong_any _ _).mono ?_; rintro e w' ⟨rfl, rfl⟩) | (go_at_call 104; refine (frmIn_any _ _ _ _).mono ?_; rintro e w' ⟨rfl, rfl⟩))
    refine wp_region_steady (fun y => Blk y w.heap.size [.int .i64 me, .int .i64 pe, .int .i64 se, .int .i64 wi, .int .i64 la, .int .i64 3, .int .i64 ta, .int .i64 pt, .int .i64 ts, .int .i64 ps, .int .i64 sm, .slice A n c, .int .i64 tr, .int .i64 le] ∧ Below w.heap.size w y) (by kernel_rfl) (by kernel_rfl) (⟨K.out.drew, HB.out.drew⟩) ?_
    refine steady_call (f := 237) (args := #[]) (.agg #[.func (.func 293) #[] #[], .func (.func 294) #[] #[], .func (.func 295) #[] #[], .func (.func 296) #[] #[], .func (.func 297) #[] #[], .func (.func 162) #[] #[], .func (.func 298) #[] #[], .func (.func 299) #[] #[], .func (.func 300) #[] #[], .func (.func 301) #[] #[], .func (.func 302) #[] #[], .func (.func 295) #[] #[], .func (.func 303) #[] #[], .func (.func 304) #[] #[], .func (.func 154) #[] #[], .func (.func 303) #[] #[], .func (.func 305) #[] #[], .func (.func 306) #[] #[]]) (by rfl) (fun y hS => by go_simp) (fun y hS => by refine (ascStates_any y).mono ?_; rintro e y' ⟨rfl, b⟩; exact ⟨rfl, hS.1.keep b, belowOn hS.2 hS.2.size b⟩) ?_
    simp only [Act.put, List.setIfInBounds_toArray, List.set_cons_zero, List.set_cons_succ]
    iterate 2
      (refine' steady_val (v := _) (by rfl) ?_ ?_
       rotate_left
       focus (intro y hS; have k0 := hS.1.at (i := 0) rfl; have k1 := hS.1.at (i := 1) rfl; have k2 := hS.1.at (i := 2) rfl; have k3 := hS.1.at (i := 3) rfl; have k4 := hS.1.at (i := 4) rfl; have k5 := hS.1.at (i := 5) rfl; have k6 := hS.1.at (i := 6) rfl; have k7 := hS.1.at (i := 7) rfl; have k8 := hS.1.at (i := 8) rfl; have k9 := hS.1.at (i := 9) rfl; have k10 := hS.1.at (i := 10) rfl; have k11 := hS.1.at (i := 11) rfl; have k12 := hS.1.at (i := 12) rfl; have k13 := hS.1.at (i := 13) rfl; clear hS; go_simp; first | done | with_reducible rfl)
       simp only [Act.put, List.setIfInBounds_toArray, List.set_cons_zero, List.set_cons_succ])
    refine steady_val (v := .agg #[.func (.func 301) #[] #[], .func (.func 302) #[] #[], .func (.func 295) #[] #[]]) (by rfl) (fun y hS => by kernel_rfl) ?_
    simp only [Act.put, List.setIfInBounds_toArray, List.set_cons_zero, List.set_cons_succ]
    refine steady_val (v := .func (.func 301) #[] #[]) (by rfl) (fun y hS => by kernel_rfl) ?_
    simp only [Act.put, List.setIfInBounds_toArray, List.set_cons_zero, List.set_cons_succ]
    refine' steady_val (v := _) (by rfl) ?_ ?_
    rotate_left
    focus (intro y hS; have k0 := hS.1.at (i := 0) rfl; have k1 := hS.1.at (i := 1) rfl; have k2 := hS.1.at (i := 2) rfl; have k3 := hS.1.at (i := 3) rfl; have k4 := hS.1.at (i := 4) rfl; have k5 := hS.1.at (i := 5) rfl; have k6 := hS.1.at (i := 6) rfl; have k7 := hS.1.at (i := 7) rfl; have k8 := hS.1.at (i := 8) rfl; have k9 := hS.1.at (i := 9) rfl; have k10 := hS.1.at (i := 10) rfl; have k11 := hS.1.at (i := 11) rfl; have k12 := hS.1.at (i := 12) rfl; have k13 := hS.1.at (i := 13) rfl; clear hS; go_simp; first | done | with_reducible rfl)
    simp only [Act.put, List.setIfInBounds_toArray, List.set_cons_zero, List.set_cons_succ]
    refine steady_call (f := 301) (args := #[.agg #[.int .i64 me, .int .i64 pe, .int .i64 se, .int .i64 wi, .int .i64 la, .int .i64 3, .int .i64 ta, .int .i64 pt, .int .i64 ts, .int .i64 ps, .int .i64 sm, .slice A n c, .int .i64 tr, .int .i64 le]]) (.bool (ieF wi la ta pt ts ps sm n && ncF tr le)) (by rfl) (fun y hS => by kernel_rfl) (fun y hS => by refine (ascUpFits_any _ _ _ _ _ _ _ _ _ _ _ _ _ _ _ _ hc y).mono ?_; rintro e y' ⟨rfl, b⟩; exact ⟨rfl, hS.1.keep b, belowOn hS.2 hS.2.size b⟩) ?_
    simp only [Act.put, List.setIfInBounds_toArray, List.set_cons_zero, List.set_cons_succ]
    repeat
      (first
        | (refine steady_no (by rfl) ?_)
        | (refine' steady_val (v := _) (by rfl) ?_ ?_
           rotate_left
           focus (intro y hS; have k0 := hS.1.at (i := 0) rfl; have k1 := hS.1.at (i := 1) rfl; have k2 := hS.1.at (i := 2) rfl; have k3 := hS.1.at (i := 3) rfl; have k4 := hS.1.at (i := 4) rfl; have k5 := hS.1.at (i := 5) rfl; have k6 := hS.1.at (i := 6) rfl; have k7 := hS.1.at (i := 7) rfl; have k8 := hS.1.at (i := 8) rfl; have k9 := hS.1.at (i := 9) rfl; have k10 := hS.1.at (i := 10) rfl; have k11 := hS.1.at (i := 11) rfl; have k12 := hS.1.at (i := 12) rfl; have k13 := hS.1.at (i := 13) rfl; clear hS; go_simp; first | done | with_reducible rfl))
        | (refine' steady_call (f := _) (args := _) _ (by rfl) ?_ ?_ ?_
           rotate_left 3
           focus (intro y hS; have k0 := hS.1.at (i := 0) rfl; have k1 := hS.1.at (i := 1) rfl; have k2 := hS.1.at (i := 2) rfl; have k3 := hS.1.at (i := 3) rfl; have k4 := hS.1.at (i := 4) rfl; have k5 := hS.1.at (i := 5) rfl; have k6 := hS.1.at (i := 6) rfl; have k7 := hS.1.at (i := 7) rfl; have k8 := hS.1.at (i := 8) rfl; have k9 := hS.1.at (i := 9) rfl; have k10 := hS.1.at (i := 10) rfl; have k11 := hS.1.at (i := 11) rfl; have k12 := hS.1.at (i := 12) rfl; have k13 := hS.1.at (i := 13) rfl; clear hS; go_simp; first | done | with_reducible rfl | (refine ⟨?_, ?_⟩ <;> with_reducible rfl))
           focus (intro y hS; first
            | (refine (ascStates_any y).mono ?_; rintro e y' ⟨rfl, b⟩; exact ⟨rfl, hS.1.keep b, belowOn hS.2 hS.2.size b⟩)
            | (refine (ascUpFits_any _ _ _ _ _ _ _ _ _ _ _ _ _ _ _ _ hc y).mono ?_; rintro e y' ⟨rfl, b⟩; exact ⟨rfl, hS.1.keep b, belowOn hS.2 hS.2.size b⟩)))
       simp only [Act.put, List.setIfInBounds_toArray, List.set_cons_zero, List.set_cons_succ])
    refine steady_nil ?_
    intro w3 hS3
    have Hfin := Lib.hid hS3.2
    clear hS3
    go_wp2
    go_ret
    exact ⟨ret_bool (by have h3 := H3.out; have h4a := inB_iff.1 h4; have h6a := inB_iff.1 h6; rw [Bool.eq_iff_iff]; first | (simp [ascOkA, stA, timedA, tagA, pairA, puF, pkF, ncF, ieF, beF, inB_iff, h1, h2, h3, h4, h5, h6]; done) | (simp [ascOkA, stA, timedA, tagA, pairA, puF, pkF, ncF, ieF, beF, inB_iff, h1, h2, h3, h4, h5, h6]; omega)), Hfin.out⟩
  · go_enter Try.func149, Try.ntmps149
    go_wp2_with (first | (go_at_call 103; refine (frmShort_any _ _).mono ?_; rintro e w' ⟨rfl, rfl⟩) | (go_at_call 151; refine (frmLong_any _ _).mono ?_; rintro e w' ⟨rfl, rfl⟩) | (go_at_call 104; refine (frmIn_any _ _ _ _).mono ?_; rintro e w' ⟨rfl, rfl⟩))
    refine wp_region_steady (fun y => Blk y w.heap.size [.int .i64 me, .int .i64 pe, .int .i64 se, .int .i64 wi, .int .i64 la, .int .i64 4, .int .i64 ta, .int .i64 pt, .int .i64 ts, .int .i64 ps, .int .i64 sm, .slice A n c, .int .i64 tr, .int .i64 le] ∧ Below w.heap.size w y) (by kernel_rfl) (by kernel_rfl) (⟨K.out.drew, HB.out.drew⟩) ?_
    refine steady_call (f := 237) (args := #[]) (.agg #[.func (.func 293) #[] #[], .func (.func 294) #[] #[], .func (.func 295) #[] #[], .func (.func 296) #[] #[], .func (.func 297) #[] #[], .func (.func 162) #[] #[], .func (.func 298) #[] #[], .func (.func 299) #[] #[], .func (.func 300) #[] #[], .func (.func 301) #[] #[], .func (.func 302) #[] #[], .func (.func 295) #[] #[], .func (.func 303) #[] #[], .func (.func 304) #[] #[], .func (.func 154) #[] #[], .func (.func 303) #[] #[], .func (.func 305) #[] #[], .func (.func 306) #[] #[]]) (by rfl) (fun y hS => by go_simp) (fun y hS => by refine (ascStates_any y).mono ?_; rintro e y' ⟨rfl, b⟩; exact ⟨rfl, hS.1.keep b, belowOn hS.2 hS.2.size b⟩) ?_
    simp only [Act.put, List.setIfInBounds_toArray, List.set_cons_zero, List.set_cons_succ]
    iterate 2
      (refine' steady_val (v := _) (by rfl) ?_ ?_
       rotate_left
       focus (intro y hS; have k0 := hS.1.at (i := 0) rfl; have k1 := hS.1.at (i := 1) rfl; have k2 := hS.1.at (i := 2) rfl; have k3 := hS.1.at (i := 3) rfl; have k4 := hS.1.at (i := 4) rfl; have k5 := hS.1.at (i := 5) rfl; have k6 := hS.1.at (i := 6) rfl; have k7 := hS.1.at (i := 7) rfl; have k8 := hS.1.at (i := 8) rfl; have k9 := hS.1.at (i := 9) rfl; have k10 := hS.1.at (i := 10) rfl; have k11 := hS.1.at (i := 11) rfl; have k12 := hS.1.at (i := 12) rfl; have k13 := hS.1.at (i := 13) rfl; clear hS; go_simp; first | done | with_reducible rfl)
       simp only [Act.put, List.setIfInBounds_toArray, List.set_cons_zero, List.set_cons_succ])
    refine steady_val (v := .agg #[.func (.func 303) #[] #[], .func (.func 304) #[] #[], .func (.func 154) #[] #[]]) (by rfl) (fun y hS => by kernel_rfl) ?_
    simp only [Act.put, List.setIfInBounds_toArray, List.set_cons_zero, List.set_cons_succ]
    refine steady_val (v := .func (.func 303) #[] #[]) (by rfl) (fun y hS => by kernel_rfl) ?_
    simp only [Act.put, List.setIfInBounds_toArray, List.set_cons_zero, List.set_cons_succ]
    refine' steady_val (v := _) (by rfl) ?_ ?_
    rotate_left
    focus (intro y hS; have k0 := hS.1.at (i := 0) rfl; have k1 := hS.1.at (i := 1) rfl; have k2 := hS.1.at (i := 2) rfl; have k3 := hS.1.at (i := 3) rfl; have k4 := hS.1.at (i := 4) rfl; have k5 := hS.1.at (i := 5) rfl; have k6 := hS.1.at (i := 6) rfl; have k7 := hS.1.at (i := 7) rfl; have k8 := hS.1.at (i := 8) rfl; have k9 := hS.1.at (i := 9) rfl; have k10 := hS.1.at (i := 10) rfl; have k11 := hS.1.at (i := 11) rfl; have k12 := hS.1.at (i := 12) rfl; have k13 := hS.1.at (i := 13) rfl; clear hS; go_simp; first | done | with_reducible rfl)
    simp only [Act.put, List.setIfInBounds_toArray, List.set_cons_zero, List.set_cons_succ]
    refine steady_call (f := 303) (args := #[.agg #[.int .i64 me, .int .i64 pe, .int .i64 se, .int .i64 wi, .int .i64 la, .int .i64 4, .int .i64 ta, .int .i64 pt, .int .i64 ts, .int .i64 ps, .int .i64 sm, .slice A n c, .int .i64 tr, .int .i64 le]]) (.bool (ieF wi la ta pt ts ps sm n && timedA tr le)) (by rfl) (fun y hS => by kernel_rfl) (fun y hS => by refine (ascEndsFits_any _ _ _ _ _ _ _ _ _ _ _ _ _ _ _ _ hc y).mono ?_; rintro e y' ⟨rfl, b⟩; exact ⟨rfl, hS.1.keep b, belowOn hS.2 hS.2.size b⟩) ?_
    simp only [Act.put, List.setIfInBounds_toArray, List.set_cons_zero, List.set_cons_succ]
    repeat
      (first
        | (refine steady_no (by rfl) ?_)
        | (refine' steady_val (v := _) (by rfl) ?_ ?_
           rotate_left
           focus (intro y hS; have k0 := hS.1.at (i := 0) rfl; have k1 := hS.1.at (i := 1) rfl; have k2 := hS.1.at (i := 2) rfl; have k3 := hS.1.at (i := 3) rfl; have k4 := hS.1.at (i := 4) rfl; have k5 := hS.1.at (i := 5) rfl; have k6 := hS.1.at (i := 6) rfl; have k7 := hS.1.at (i := 7) rfl; have k8 := hS.1.at (i := 8) rfl; have k9 := hS.1.at (i := 9) rfl; have k10 := hS.1.at (i := 10) rfl; have k11 := hS.1.at (i := 11) rfl; have k12 := hS.1.at (i := 12) rfl; have k13 := hS.1.at (i := 13) rfl; clear hS; go_simp; first | done | with_reducible rfl))
        | (refine' steady_call (f := _) (args := _) _ (by rfl) ?_ ?_ ?_
           rotate_left 3
           focus (intro y hS; have k0 := hS.1.at (i := 0) rfl; have k1 := hS.1.at (i := 1) rfl; have k2 := hS.1.at (i := 2) rfl; have k3 := hS.1.at (i := 3) rfl; have k4 := hS.1.at (i := 4) rfl; have k5 := hS.1.at (i := 5) rfl; have k6 := hS.1.at (i := 6) rfl; have k7 := hS.1.at (i := 7) rfl; have k8 := hS.1.at (i := 8) rfl; have k9 := hS.1.at (i := 9) rfl; have k10 := hS.1.at (i := 10) rfl; have k11 := hS.1.at (i := 11) rfl; have k12 := hS.1.at (i := 12) rfl; have k13 := hS.1.at (i := 13) rfl; clear hS; go_simp; first | done | with_reducible rfl | (refine ⟨?_, ?_⟩ <;> with_reducible rfl))
           focus (intro y hS; first
            | (refine (ascStates_any y).mono ?_; rintro e y' ⟨rfl, b⟩; exact ⟨rfl, hS.1.keep b, belowOn hS.2 hS.2.size b⟩)
            | (refine (ascEndsFits_any _ _ _ _ _ _ _ _ _ _ _ _ _ _ _ _ hc y).mono ?_; rintro e y' ⟨rfl, b⟩; exact ⟨rfl, hS.1.keep b, belowOn hS.2 hS.2.size b⟩)))
       simp only [Act.put, List.setIfInBounds_toArray, List.set_cons_zero, List.set_cons_succ])
    refine steady_nil ?_
    intro w3 hS3
    have Hfin := Lib.hid hS3.2
    clear hS3
    go_wp2
    go_ret
    exact ⟨ret_bool (by have h3 := H3.out; have h4a := inB_iff.1 h4; have h6a := inB_iff.1 h6; rw [Bool.eq_iff_iff]; first | (simp [ascOkA, stA, timedA, tagA, pairA, puF, pkF, ncF, ieF, beF, inB_iff, h1, h2, h3, h4, h5, h6]; done) | (simp [ascOkA, stA, timedA, tagA, pairA, puF, pkF, ncF, ieF, beF, inB_iff, h1, h2, h3, h4, h5, h6]; omega)), Hfin.out⟩
  · go_enter Try.func149, Try.ntmps149
    go_wp2_with (first | (go_at_call 103; refine (frmShort_any _ _).mono ?_; rintro e w' ⟨rfl, rfl⟩) | (go_at_call 151; refine (frmLong_any _ _).mono ?_; rintro e w' ⟨rfl, rfl⟩) | (go_at_call 104; refine (frmIn_any _ _ _ _).mono ?_; rintro e w' ⟨rfl, rfl⟩))
    refine wp_region_steady (fun y => Blk y w.heap.size [.int .i64 me, .int .i64 pe, .int .i64 se, .int .i64 wi, .int .i64 la, .int .i64 5, .int .i64 ta, .int .i64 pt, .int .i64 ts, .int .i64 ps, .int .i64 sm, .slice A n c, .int .i64 tr, .int .i64 le] ∧ Below w.heap.size w y) (by kernel_rfl) (by kernel_rfl) (⟨K.out.drew, HB.out.drew⟩) ?_
    refine steady_call (f := 237) (args := #[]) (.agg #[.func (.func 293) #[] #[], .func (.func 294) #[] #[], .func (.func 295) #[] #[], .func (.func 296) #[] #[], .func (.func 297) #[] #[], .func (.func 162) #[] #[], .func (.func 298) #[] #[], .func (.func 299) #[] #[], .func (.func 300) #[] #[], .func (.func 301) #[] #[], .func (.func 302) #[] #[], .func (.func 295) #[] #[], .func (.func 303) #[] #[], .func (.func 304) #[] #[], .func (.func 154) #[] #[], .func (.func 303) #[] #[], .func (.func 305) #[] #[], .func (.func 306) #[] #[]]) (by rfl) (fun y hS => by go_simp) (fun y hS => by refine (ascStates_any y).mono ?_; rintro e y' ⟨rfl, b⟩; exact ⟨rfl, hS.1.keep b, belowOn hS.2 hS.2.size b⟩) ?_
    simp only [Act.put, List.setIfInBounds_toArray, List.set_cons_zero, List.set_cons_succ]
    iterate 2
      (refine' steady_val (v := _) (by rfl) ?_ ?_
       rotate_left
       focus (intro y hS; have k0 := hS.1.at (i := 0) rfl; have k1 := hS.1.at (i := 1) rfl; have k2 := hS.1.at (i := 2) rfl; have k3 := hS.1.at (i := 3) rfl; have k4 := hS.1.at (i := 4) rfl; have k5 := hS.1.at (i := 5) rfl; have k6 := hS.1.at (i := 6) rfl; have k7 := hS.1.at (i := 7) rfl; have k8 := hS.1.at (i := 8) rfl; have k9 := hS.1.at (i := 9) rfl; have k10 := hS.1.at (i := 10) rfl; have k11 := hS.1.at (i := 11) rfl; have k12 := hS.1.at (i := 12) rfl; have k13 := hS.1.at (i := 13) rfl; clear hS; go_simp; first | done | with_reducible rfl)
       simp only [Act.put, List.setIfInBounds_toArray, List.set_cons_zero, List.set_cons_succ])
    refine steady_val (v := .agg #[.func (.func 303) #[] #[], .func (.func 305) #[] #[], .func (.func 306) #[] #[]]) (by rfl) (fun y hS => by kernel_rfl) ?_
    simp only [Act.put, List.setIfInBounds_toArray, List.set_cons_zero, List.set_cons_succ]
    refine steady_val (v := .func (.func 303) #[] #[]) (by rfl) (fun y hS => by kernel_rfl) ?_
    simp only [Act.put, List.setIfInBounds_toArray, List.set_cons_zero, List.set_cons_succ]
    refine' steady_val (v := _) (by rfl) ?_ ?_
    rotate_left
    focus (intro y hS; have k0 := hS.1.at (i := 0) rfl; have k1 := hS.1.at (i := 1) rfl; have k2 := hS.1.at (i := 2) rfl; have k3 := hS.1.at (i := 3) rfl; have k4 := hS.1.at (i := 4) rfl; have k5 := hS.1.at (i := 5) rfl; have k6 := hS.1.at (i := 6) rfl; have k7 := hS.1.at (i := 7) rfl; have k8 := hS.1.at (i := 8) rfl; have k9 := hS.1.at (i := 9) rfl; have k10 := hS.1.at (i := 10) rfl; have k11 := hS.1.at (i := 11) rfl; have k12 := hS.1.at (i := 12) rfl; have k13 := hS.1.at (i := 13) rfl; clear hS; go_simp; first | done | with_reducible rfl)
    simp only [Act.put, List.setIfInBounds_toArray, List.set_cons_zero, List.set_cons_succ]
    refine steady_call (f := 303) (args := #[.agg #[.int .i64 me, .int .i64 pe, .int .i64 se, .int .i64 wi, .int .i64 la, .int .i64 5, .int .i64 ta, .int .i64 pt, .int .i64 ts, .int .i64 ps, .int .i64 sm, .slice A n c, .int .i64 tr, .int .i64 le]]) (.bool (ieF wi la ta pt ts ps sm n && timedA tr le)) (by rfl) (fun y hS => by kernel_rfl) (fun y hS => by refine (ascEndsFits_any _ _ _ _ _ _ _ _ _ _ _ _ _ _ _ _ hc y).mono ?_; rintro e y' ⟨rfl, b⟩; exact ⟨rfl, hS.1.keep b, belowOn hS.2 hS.2.size b⟩) ?_
    simp only [Act.put, List.setIfInBounds_toArray, List.set_cons_zero, List.set_cons_succ]
    repeat
      (first
        | (refine steady_no (by rfl) ?_)
        | (refine' steady_val (v := _) (by rfl) ?_ ?_
           rotate_left
           focus (intro y hS; have k0 := hS.1.at (i := 0) rfl; have k1 := hS.1.at (i := 1) rfl; have k2 := hS.1.at (i := 2) rfl; have k3 := hS.1.at (i := 3) rfl; have k4 := hS.1.at (i := 4) rfl; have k5 := hS.1.at (i := 5) rfl; have k6 := hS.1.at (i := 6) rfl; have k7 := hS.1.at (i := 7) rfl; have k8 := hS.1.at (i := 8) rfl; have k9 := hS.1.at (i := 9) rfl; have k10 := hS.1.at (i := 10) rfl; have k11 := hS.1.at (i := 11) rfl; have k12 := hS.1.at (i := 12) rfl; have k13 := hS.1.at (i := 13) rfl; clear hS; go_simp; first | done | with_reducible rfl))
        | (refine' steady_call (f := _) (args := _) _ (by rfl) ?_ ?_ ?_
           rotate_left 3
           focus (intro y hS; have k0 := hS.1.at (i := 0) rfl; have k1 := hS.1.at (i := 1) rfl; have k2 := hS.1.at (i := 2) rfl; have k3 := hS.1.at (i := 3) rfl; have k4 := hS.1.at (i := 4) rfl; have k5 := hS.1.at (i := 5) rfl; have k6 := hS.1.at (i := 6) rfl; have k7 := hS.1.at (i := 7) rfl; have k8 := hS.1.at (i := 8) rfl; have k9 := hS.1.at (i := 9) rfl; have k10 := hS.1.at (i := 10) rfl; have k11 := hS.1.at (i := 11) rfl; have k12 := hS.1.at (i := 12) rfl; have k13 := hS.1.at (i := 13) rfl; clear hS; go_simp; first | done | with_reducible rfl | (refine ⟨?_, ?_⟩ <;> with_reducible rfl))
           focus (intro y hS; first
            | (refine (ascStates_any y).mono ?_; rintro e y' ⟨rfl, b⟩; exact ⟨rfl, hS.1.keep b, belowOn hS.2 hS.2.size b⟩)
            | (refine (ascEndsFits_any _ _ _ _ _ _ _ _ _ _ _ _ _ _ _ _ hc y).mono ?_; rintro e y' ⟨rfl, b⟩; exact ⟨rfl, hS.1.keep b, belowOn hS.2 hS.2.size b⟩)))
       simp only [Act.put, List.setIfInBounds_toArray, List.set_cons_zero, List.set_cons_succ])
    refine steady_nil ?_
    intro w3 hS3
    have Hfin := Lib.hid hS3.2
    clear hS3
    go_wp2
    go_ret
    exact ⟨ret_bool (by have h3 := H3.out; have h4a := inB_iff.1 h4; have h6a := inB_iff.1 h6; rw [Bool.eq_iff_iff]; first | (simp [ascOkA, stA, timedA, tagA, pairA, puF, pkF, ncF, ieF, beF, inB_iff, h1, h2, h3, h4, h5, h6]; done) | (simp [ascOkA, stA, timedA, tagA, pairA, puF, pkF, ncF, ieF, beF, inB_iff, h1, h2, h3, h4, h5, h6]; omega)), Hfin.out⟩
  · have h7 : inB st 0 5 = false := inB_not.2 (by omega)
    go_enter Try.func149, Try.ntmps149
    go_wp2_with (first | (go_at_call 103; refine (frmShort_any _ _).mono ?_; rintro e w' ⟨rfl, rfl⟩) | (go_at_call 151; refine (frmLong_any _ _).mono ?_; rintro e w' ⟨rfl, rfl⟩) | (go_at_call 104; refine (frmIn_any _ _ _ _).mono ?_; rintro e w' ⟨rfl, rfl⟩))
    go_ret
    exact ⟨ret_bool (by have e0 : ¬ st = 0 := by omega
                        have e1 : ¬ st = 1 := by omega
                        have e2 : ¬ st = 2 := by omega
                        have e3 : ¬ st = 3 := by omega
                        have e4 : ¬ st = 4 := by omega
                        have e5 : ¬ st = 5 := by omega
                        simp [ascOkA, stA, e0, e1, e2, e3, e4, e5]), HB.out⟩
theorem implAscEndOk_r (cs : List Value) (x : DAscEnd) (w : World) (h : FAscEnd w cs x) : Calls Try.prog 149 #[.agg cs.toArray] w fun e w' => e = .returned (.bool (ascOk x)) ∧ Below w.heap.size w w' := by
  obtain ⟨v11, rfl, h11⟩ := h
  obtain ⟨A, c, rfl⟩ := h11.slice
  exact implAscEndOk_any _ _ _ _ _ _ _ _ _ _ _ _ _ _ _ _ h11.cap w
end Go.Proofs.Ythdjjgbjemaabaa
