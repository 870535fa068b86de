/-
  Numbers that ascend within bounds: both programs' checks; copies of numbers. (Written by wip/tools/genaspok.py.)
-/
import Derived.Test.YthdjjgbjemaabaaAllI
import Derived.Test.YthdjjgbjemaabaaAppI
import Derived.BigQuiet
namespace Go.Proofs.Ythdjjgbjemaabaa
open Go.ChangeShapes Go.WideShapes Go.ChangeAt Go.RowKit
set_option linter.unusedVariables false
set_option linter.unusedSimpArgs false


def prevI (xs : List Int) (j : Nat) : Int := (xs[j - 1]?).getD 0
def upGood (lo hi : Int) (xs : List Int) (j : Nat) (a : Int) : Bool := inB a lo hi && (decide (j = 0) || decide (prevI xs j < a))
noncomputable def upF (lo hi : Int) (xs : List Int) : Bool := allI (upGood lo hi xs) xs
theorem prevI_succ {xs : List Int} {m : Nat} {a : Int} (h : xs[m]? = some a) : prevI xs (m + 1) = a := by simp [prevI, h]
theorem up_low {lo hi : Int} {xs : List Int} (h : upF lo hi xs = true) : ∀ j (hj : j < xs.length), lo + j ≤ xs[j]
  | 0, hj => by
    have := allI_at h hj
    unfold upGood at this
    rw [Bool.and_eq_true] at this
    have := (inB_iff.1 this.1).1
    omega
  | j + 1, hj => by
    have h1 := up_low h j (by omega)
    have := allI_at h hj
    unfold upGood at this
    rw [Bool.and_eq_true, prevI_succ (List.getElem?_eq_getElem (by omega : j < xs.length))] at this
    have h2 := this.2
    simp at h2
    omega
theorem up_len {lo hi : Int} {xs : List Int} (h : upF lo hi xs = true) (hlh : lo ≤ hi + 1) : (xs.length : Int) ≤ hi - lo + 1 := by
  rcases Nat.eq_zero_or_pos xs.length with h0 | h0
  · omega
  have h1 := up_low h (xs.length - 1) (by omega)
  have h2 := allI_at h (j := xs.length - 1) (by omega)
  unfold upGood at h2
  rw [Bool.and_eq_true] at h2
  have := (inB_iff.1 h2.1).2
  omega
theorem up_nil (lo hi : Int) : upF lo hi [] = true := allI_good (fun j hj => by simp at hj)

set_option maxRecDepth 100000 in
set_option maxHeartbeats 2000000 in
theorem l13Up_r (v : Value) (xs : List Int) (lo hi : Int) (w : World) (hv : RdI w v xs) : Calls Try.prog 220 #[v, .int .i64 lo, .int .i64 hi] w fun e w' => e = .returned (.bool (upF lo hi xs)) ∧ Below w.heap.size w w' := by
  obtain ⟨A, c, rfl⟩ := hv.slice
  have hc := hv.cap
  have Hv := Lib.hid hv
  clear hv
  have Hup := Lib.hid (show upF lo hi xs = allI (upGood lo hi xs) xs from rfl)
  have Hug := Lib.hid (show ∀ j a, upGood lo hi xs j a = (inB a lo hi && (decide (j = 0) || decide (prevI xs j < a))) from fun _ _ => rfl)
  have Hpr := Lib.hid (show ∀ (m : Nat) (a : Int), xs[m]? = some a → prevI xs (m + 1) = a from fun m a h => prevI_succ h)
  generalize upF lo hi xs = all at *
  generalize upGood lo hi xs = ug at *
  generalize prevI xs = pv at *
  generalize hl : xs.length = n at *
  have Hl := Lib.hid hl
  clear hl
  go_enter Try.func220, Try.ntmps220
  go_wp2
  go_loopw [7] (fun i w1 => ∃ j : Nat, j ≤ n ∧ i = .int .i64 j ∧ Below w.heap.size w w1 ∧ UpTo ug xs j) (fun i _ => n - (intOf i).toNat)
  case atStart => exact ⟨0, by omega, rfl, Below.refl _ _, UpTo.zero⟩
  case round =>
    obtain ⟨j, hj, rfl, hb1, hu⟩ := hrel
    have Hu := Lib.hid hu
    have HB := Lib.hid hb1
    clear hu hb1
    by_cases hlt : j < n
    · obtain ⟨ad, hk, rfl, hcell⟩ := (Hv.out.below HB.out).at_ hlt
      have hjn : (j : Int) < n := by omega
      have Hug' := Lib.hid (Hug.out j xs[j])
      rcases hA : inB xs[j] lo hi with _ | _
      · have Hbad := Lib.hid (show ug j xs[j] = false by rw [Hug'.out, hA]; rfl)
        go_wp2_with fail
        refine wp_region_steady (fun y => y.cell? (ad.add (j)) = some (.int .i64 xs[j]) ∧ Below wr.heap.size wr y) (by kernel_rfl) (by kernel_rfl) (⟨cellKeep hcell (Below.refl _ _).drew, (Below.refl _ _).drew⟩) ?_
        repeat
          (first
            | (refine steady_no (by rfl) ?_)
            | (refine' steady_val (v := _) (by rfl) ?_ ?_
               rotate_left
               focus (intro y hS; have c0 := hS.1; clear hS; go_simp; first | done | with_reducible rfl))
            | (refine' steady_call (f := _) (args := _) _ (by rfl) ?_ ?_ ?_
               rotate_left 3
               focus (intro y hS; have c0 := hS.1; clear hS; go_simp; first | done | with_reducible rfl | (refine ⟨?_, ?_⟩ <;> with_reducible rfl))
               focus (intro y hS; first
                | (refine (l1In_any _ _ _ y).mono ?_; rintro e y' ⟨rfl, rfl⟩; exact ⟨by rw [hA], hS⟩)))
           simp only [Act.put, List.setIfInBounds_toArray, List.set_cons_zero, List.set_cons_succ])
        refine steady_nil ?_
        intro w3 hS3
        replace HB := Lib.hid (belowOn HB.out HB.out.size hS3.2)
        clear hS3
        go_wp2
        go_ret
        exact ⟨ret_bool (by have hb := allI_bad hk Hbad.out; rw [Hup.out, hb]), HB.out⟩
      rcases Nat.eq_zero_or_pos j with h0 | h0
      · have h0' : ((0 : Int) < (j : Int)) = False := by simp [h0]
        have h0n : (0 < j) = False := by simp [h0]
        have Hgood := Lib.hid (show ug j xs[j] = true by rw [Hug'.out, hA, decide_eq_true h0]; rfl)
        clear h0
        go_wp2_with fail
        refine wp_region_steady (fun y => y.cell? (ad.add (j)) = some (.int .i64 xs[j]) ∧ Below wr.heap.size wr y) (by kernel_rfl) (by kernel_rfl) (⟨cellKeep hcell (Below.refl _ _).drew, (Below.refl _ _).drew⟩) ?_
        repeat
          (first
            | (refine steady_no (by rfl) ?_)
            | (refine' steady_val (v := _) (by rfl) ?_ ?_
               rotate_left
               focus (intro y hS; have c0 := hS.1; clear hS; go_simp; first | done | with_reducible rfl))
            | (refine' steady_call (f := _) (args := _) _ (by rfl) ?_ ?_ ?_
               rotate_left 3
               focus (intro y hS; have c0 := hS.1; clear hS; go_simp; first | done | with_reducible rfl | (refine ⟨?_, ?_⟩ <;> with_reducible rfl))
               focus (intro y hS; first
                | (refine (l1In_any _ _ _ y).mono ?_; rintro e y' ⟨rfl, rfl⟩; exact ⟨by rw [hA], hS⟩)))
           simp only [Act.put, List.setIfInBounds_toArray, List.set_cons_zero, List.set_cons_succ])
        refine steady_nil ?_
        intro w3 hS3
        replace HB := Lib.hid (belowOn HB.out HB.out.size hS3.2)
        clear hS3
        go_wp2
        exact ⟨⟨j + 1, by omega, by go_num, HB.out, Hu.out.succ hk Hgood.out⟩, by simp [intOf]; omega⟩
      · have hj0 : (0 : Int) < (j : Int) := by omega
        obtain ⟨m, hm⟩ : ∃ m, m + 1 = j := ⟨j - 1, by omega⟩
        have hsub : IntKind.i64.wrap ((j : Int) - 1) = (m : Int) := by rw [IntWalk.i64_in _ (by omega)]; omega
        have hmn : (m : Int) < n := by omega
        obtain ⟨ad', hkm, hae, hcell2⟩ := (Hv.out.below HB.out).at_ (show m < n by omega)
        injection hae with hae
        subst hae
        have Hp := Lib.hid (show pv j = xs[m] from by rw [← hm]; exact Hpr.out m xs[m] (List.getElem?_eq_getElem hkm))
        have Hj0 := Lib.hid (show ¬ j = 0 by omega)
        clear hm
        by_cases hC : xs[m] < xs[j]
        · have Hgood := Lib.hid (show ug j xs[j] = true by rw [Hug'.out, hA, Hp.out, decide_eq_true hC]; simp)
          go_wp2_with fail
          refine wp_region_steady (fun y => y.cell? (ad.add (j)) = some (.int .i64 xs[j]) ∧ y.cell? (ad.add m) = some (.int .i64 xs[m]) ∧ Below wr.heap.size wr y) (by kernel_rfl) (by kernel_rfl) (⟨cellKeep hcell (Below.refl _ _).drew, cellKeep hcell2 (Below.refl _ _).drew, (Below.refl _ _).drew⟩) ?_
          repeat
            (first
              | (refine steady_no (by rfl) ?_)
              | (refine' steady_val (v := _) (by rfl) ?_ ?_
                 rotate_left
                 focus (intro y hS; have c0 := hS.1; have c1 := hS.2.1; clear hS; go_simp; first | done | with_reducible rfl))
              | (refine' steady_call (f := _) (args := _) _ (by rfl) ?_ ?_ ?_
                 rotate_left 3
                 focus (intro y hS; have c0 := hS.1; have c1 := hS.2.1; clear hS; go_simp; first | done | with_reducible rfl | (refine ⟨?_, ?_⟩ <;> with_reducible rfl))
                 focus (intro y hS; first
                  | (refine (l1In_any _ _ _ y).mono ?_; rintro e y' ⟨rfl, rfl⟩; exact ⟨by rw [hA], hS⟩)))
             simp only [Act.put, List.setIfInBounds_toArray, List.set_cons_zero, List.set_cons_succ])
          refine steady_nil ?_
          intro w3 hS3
          replace HB := Lib.hid (belowOn HB.out HB.out.size hS3.2.2)
          clear hS3
          go_wp2
          exact ⟨⟨j + 1, by omega, by go_num, HB.out, Hu.out.succ hk Hgood.out⟩, by simp [intOf]; omega⟩
        · have Hbad := Lib.hid (show ug j xs[j] = false by rw [Hug'.out, hA, Hp.out, decide_eq_false hC, decide_eq_false Hj0.out]; rfl)
          go_wp2_with fail
          refine wp_region_steady (fun y => y.cell? (ad.add (j)) = some (.int .i64 xs[j]) ∧ y.cell? (ad.add m) = some (.int .i64 xs[m]) ∧ Below wr.heap.size wr y) (by kernel_rfl) (by kernel_rfl) (⟨cellKeep hcell (Below.refl _ _).drew, cellKeep hcell2 (Below.refl _ _).drew, (Below.refl _ _).drew⟩) ?_
          repeat
            (first
              | (refine steady_no (by rfl) ?_)
              | (refine' steady_val (v := _) (by rfl) ?_ ?_
                 rotate_left
                 focus (intro y hS; have c0 := hS.1; have c1 := hS.2.1; clear hS; go_simp; first | done | with_reducible rfl))
              | (refine' steady_call (f := _) (args := _) _ (by rfl) ?_ ?_ ?_
                 rotate_left 3
                 focus (intro y hS; have c0 := hS.1; have c1 := hS.2.1; clear hS; go_simp; first | done | with_reducible rfl | (refine ⟨?_, ?_⟩ <;> with_reducible rfl))
                 focus (intro y hS; first
                  | (refine (l1In_any _ _ _ y).mono ?_; rintro e y' ⟨rfl, rfl⟩; exact ⟨by rw [hA], hS⟩)))
             simp only [Act.put, List.setIfInBounds_toArray, List.set_cons_zero, List.set_cons_succ])
          refine steady_nil ?_
          intro w3 hS3
          replace HB := Lib.hid (belowOn HB.out HB.out.size hS3.2.2)
          clear hS3
          go_wp2
          go_ret
          exact ⟨ret_bool (by have hb := allI_bad hk Hbad.out; rw [Hup.out, hb]), HB.out⟩
    · go_wp2
      go_ret
      exact ⟨ret_bool (by have h := Hu.out.done (by rw [Hl.out]; omega); rw [Hup.out, h]), HB.out⟩

set_option maxRecDepth 100000 in
set_option maxHeartbeats 2000000 in
theorem orderFits_r (v : Value) (xs : List Int) (lo hi : Int) (w : World) (hv : RdI w v xs) : Calls Try.prog 286 #[v, .int .i64 lo, .int .i64 hi] w fun e w' => e = .returned (.bool (upF lo hi xs)) ∧ Below w.heap.size w w' := by
  obtain ⟨A, c, rfl⟩ := hv.slice
  have hc := hv.cap
  have Hv := Lib.hid hv
  clear hv
  have Hup := Lib.hid (show upF lo hi xs = allI (upGood lo hi xs) xs from rfl)
  have Hug := Lib.hid (show ∀ j a, upGood lo hi xs j a = (inB a lo hi && (decide (j = 0) || decide (prevI xs j < a))) from fun _ _ => rfl)
  have Hpr := Lib.hid (show ∀ (m : Nat) (a : Int), xs[m]? = some a → prevI xs (m + 1) = a from fun m a h => prevI_succ h)
  generalize upF lo hi xs = all at *
  generalize upGood lo hi xs = ug at *
  generalize prevI xs = pv at *
  generalize hl : xs.length = n at *
  have Hl := Lib.hid hl
  clear hl
  go_enter Try.func286, Try.ntmps286
  go_wp2
  go_loopw [11] (fun i w1 => ∃ j : Nat, j ≤ n ∧ i = .int .i64 j ∧ Below w.heap.size w w1 ∧ UpTo ug xs j) (fun i _ => n - (intOf i).toNat)
  case atStart => exact ⟨0, by omega, rfl, Below.refl _ _, UpTo.zero⟩
  case round =>
    obtain ⟨j, hj, rfl, hb1, hu⟩ := hrel
    have Hu := Lib.hid hu
    have HB := Lib.hid hb1
    clear hu hb1
    by_cases hlt : j < n
    · obtain ⟨ad, hk, rfl, hcell⟩ := (Hv.out.below HB.out).at_ hlt
      have hjn : (j : Int) < n := by omega
      have Hug' := Lib.hid (Hug.out j xs[j])
      rcases hA : inB xs[j] lo hi with _ | _
      · have Hbad := Lib.hid (show ug j xs[j] = false by rw [Hug'.out, hA]; rfl)
        go_wp2_with (go_at_call 104; refine (frmIn_any _ _ _ _).mono ?_; rintro e w' ⟨rfl, rfl⟩; rw [hA])
        go_ret
        exact ⟨ret_bool (by have hb := allI_bad hk Hbad.out; rw [Hup.out, hb]), HB.out⟩
      rcases Nat.eq_zero_or_pos j with h0 | h0
      · have h0' : ((0 : Int) < (j : Int)) = False := by simp [h0]
        have h0n : (0 < j) = False := by simp [h0]
        have Hgood := Lib.hid (show ug j xs[j] = true by rw [Hug'.out, hA, decide_eq_true h0]; rfl)
        clear h0
        go_wp2_with (go_at_call 104; refine (frmIn_any _ _ _ _).mono ?_; rintro e w' ⟨rfl, rfl⟩; rw [hA])
        exact ⟨⟨j + 1, by omega, by go_num, HB.out, Hu.out.succ hk Hgood.out⟩, by simp [intOf]; omega⟩
      · have hj0 : (0 : Int) < (j : Int) := by omega
        obtain ⟨m, hm⟩ : ∃ m, m + 1 = j := ⟨j - 1, by omega⟩
        have hsub : IntKind.i64.wrap ((j : Int) - 1) = (m : Int) := by rw [IntWalk.i64_in _ (by omega)]; omega
        have hmn : (m : Int) < n := by omega
        obtain ⟨ad', hkm, hae, hcell2⟩ := (Hv.out.below HB.out).at_ (show m < n by omega)
        injection hae with hae
        subst hae
        have Hp := Lib.hid (show pv j = xs[m] from by rw [← hm]; exact Hpr.out m xs[m] (List.getElem?_eq_getElem hkm))
        have Hj0 := Lib.hid (show ¬ j = 0 by omega)
        clear hm
        by_cases hC : xs[m] < xs[j]
        · have Hgood := Lib.hid (show ug j xs[j] = true by rw [Hug'.out, hA, Hp.out, decide_eq_true hC]; simp)
          go_wp2_with (go_at_call 104; refine (frmIn_any _ _ _ _).mono ?_; rintro e w' ⟨rfl, rfl⟩; rw [hA])
          exact ⟨⟨j + 1, by omega, by go_num, HB.out, Hu.out.succ hk Hgood.out⟩, by simp [intOf]; omega⟩
        · have Hbad := Lib.hid (show ug j xs[j] = false by rw [Hug'.out, hA, Hp.out, decide_eq_false hC, decide_eq_false Hj0.out]; rfl)
          go_wp2_with (go_at_call 104; refine (frmIn_any _ _ _ _).mono ?_; rintro e w' ⟨rfl, rfl⟩; rw [hA])
          go_ret
          exact ⟨ret_bool (by have hb := allI_bad hk Hbad.out; rw [Hup.out, hb]), HB.out⟩
    · go_wp2
      go_ret
      exact ⟨ret_bool (by have h := Hu.out.done (by rw [Hl.out]; omega); rw [Hup.out, h]), HB.out⟩

set_option maxRecDepth 100000 in
set_option maxHeartbeats 1000000 in
theorem cloneInts_n (v : Value) (xs : List Int) (w : World) (hv : RdI w v xs) (hn : xs.length ≤ 1048576) : Calls Try.prog 112 #[v] w fun e w' => ∃ v' f, e = .returned v' ∧ OwIn w' f v' xs ∧ Nw w.heap.size w'.heap.size f ∧ Below w.heap.size w w' := by
  have Hv := Lib.hid hv
  obtain ⟨A, c, rfl⟩ := hv.slice
  have hc := hv.cap
  have Hnil := Lib.hid (show A = none → xs = [] from fun h => by
    subst h
    obtain ⟨A', c', he, _, hcl⟩ := hv
    injection he with he _ _
    rcases xs with _ | ⟨y, ys⟩
    · rfl
    · obtain ⟨ad, h1, _⟩ := hcl 0 y rfl
      rw [h1] at he; cases he)
  clear hv
  rcases A with _ | ad
  · obtain rfl := Hnil.out rfl
    have he : ∀ w : World, (binOp .eql 35 (.slice none 0 c) (.slice none 0 0)).run Try.prog w = .ok (.bool true) w := fun _ => rfl
    go_enter Try.func112, Try.ntmps112
    go_wp2
    go_ret
    first | exact ⟨_, [], rfl, OwIn.nil _, Nw.nil _ _, Below.refl _ _⟩ | exact ⟨_, rfl, [], OwIn.nil _, Nw.nil _ _, Below.refl _ _⟩
  · have he : ∀ w : World, (binOp .eql 35 (.slice (some ad) xs.length c) (.slice none 0 0)).run Try.prog w = .ok (.bool false) w := fun _ => rfl
    have b0 := (Below.refl w.heap.size w).alloc (Nat.le_refl _) (.cells #[] 3)
    have HB := Lib.hid b0
    have Hv' := Lib.hid (Hv.out.below b0)
    have Ho := Lib.hid (OwIn.lit0 w)
    have Hn0 := Lib.hid (show Nw w.heap.size (w.alloc (.cells #[] 3)).heap.size [w.heap.size] from ⟨by simp, by simp⟩)
    clear b0
    go_enter Try.func112, Try.ntmps112
    go_wp2_with (at_builtin; go_loud (refine wpList_appIn (lo := w.heap.size) (xs := []) _ rfl (.tmp 5) (.tmp 6) rfl rfl rfl Ho.out Hn0.out Hv'.out (by simp; omega) (by simp) ?_))
    intro v' w1 f' ho hnw hg
    try rw [List.nil_append] at ho
    have Ho' := Lib.hid ho
    have Hn := Lib.hid hnw
    have Hg := Lib.hid (HB.out.grown hg (by simp) (fun k hk => by simp [Value.ownBlock] at hk; omega))
    clear ho hnw hg
    go_wp2
    go_ret
    first | exact ⟨v', f', rfl, Ho'.out, Hn.out, Hg.out⟩ | exact ⟨v', rfl, f', Ho'.out, Hn.out, Hg.out⟩
end Go.Proofs.Ythdjjgbjemaabaa
