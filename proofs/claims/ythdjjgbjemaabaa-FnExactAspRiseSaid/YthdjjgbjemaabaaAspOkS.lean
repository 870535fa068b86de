/-
  Is a server's book ok? One plain function, and the model's contract. (Written by wip/tools/genaspok.py.)
-/
import Derived.Test.YthdjjgbjemaabaaUpOk
import Derived.Test.YthdjjgbjemaabaaTyAspBook
import Derived.BigQuiet
namespace Go.Proofs.Ythdjjgbjemaabaa
open Go.ChangeShapes Go.WideShapes Go.ChangeAt Go.RowKit
set_option linter.unusedVariables false
set_option linter.unusedSimpArgs false


noncomputable def gateOkF (g : DAspGate) : Bool := inB g.xGate 0 65535 && (upF 1 9 g.xActive && (upF 1 9 g.xAsked && (decide (g.xOff.length ≤ 6) && (upF 0 999 g.xOff && (inB g.xJam 0 3 && (g.xUp || (decide (g.xActive.length = 0) && (decide (g.xAsked.length = 0) && (decide (g.xOff.length = 0) && decide (g.xJam = 0))))))))))
def prevG (gs : List DAspGate) (j : Nat) : Int := ((gs[j - 1]?).map (·.xGate)).getD 0
noncomputable def bookGood (gs : List DAspGate) (j : Nat) (g : DAspGate) : Bool := gateOkF g && (decide (j = 0) || decide (prevG gs j < g.xGate))
noncomputable def aspOk (b : DAspBook) : Bool := upF 1 9 b.xWish && (decide (b.xWish.length ≤ 4) && (decide (b.xGates.length ≤ 2) && allI (bookGood b.xGates) b.xGates))
theorem prevG_succ {gs : List DAspGate} {m : Nat} {g : DAspGate} (h : gs[m]? = some g) : prevG gs (m + 1) = g.xGate := by simp [prevG, h]

set_option maxRecDepth 100000 in
set_option maxHeartbeats 4000000 in
theorem l14GateOk_r (cs : List Value) (g : DAspGate) (w : World) (h : FAspGate w cs g) : Calls Try.prog 221 #[.agg cs.toArray] w fun e w' => e = .returned (.bool (gateOkF g)) ∧ Below w.heap.size w w' := by
  obtain ⟨v2, v3, v4, rfl, h2, h3, h4⟩ := h
  obtain ⟨A, a, rfl⟩ := h2.slice
  obtain ⟨B, b, rfl⟩ := h3.slice
  obtain ⟨C, d, rfl⟩ := h4.slice
  have hca := h2.cap
  have hcb := h3.cap
  have hcd := h4.cap
  have H2 := Lib.hid h2
  have H3 := Lib.hid h3
  have H4 := Lib.hid h4
  clear h2 h3 h4
  have Hgo := Lib.hid (show gateOkF g = (inB g.xGate 0 65535 && (upF 1 9 g.xActive && (upF 1 9 g.xAsked && (decide (g.xOff.length ≤ 6) && (upF 0 999 g.xOff && (inB g.xJam 0 3 && (g.xUp || (decide (g.xActive.length = 0) && (decide (g.xAsked.length = 0) && (decide (g.xOff.length = 0) && decide (g.xJam = 0))))))))))) from rfl)
  generalize gateOkF g = go at *
  generalize hn : g.xActive.length = n at *
  generalize hm : g.xAsked.length = m at *
  generalize hk : g.xOff.length = k at *
  clear hn hm hk
  generalize g.xGate = ga at *
  generalize g.xUp = up at *
  generalize g.xJam = ja at *
  have K := Lib.hid (Blk.new (w := w) (b := w.heap.size) #[.int .i64 ga, .bool up, .slice A n a, .slice B m b, .slice C k d, .int .i64 ja] 153 rfl)
  have HB := Lib.hid ((Below.refl w.heap.size w).alloc (Nat.le_refl _) (.cells #[.int .i64 ga, .bool up, .slice A n a, .slice B m b, .slice C k d, .int .i64 ja] 153))
  have k0 := K.out.at (i := 0) rfl
  have k1 := K.out.at (i := 1) rfl
  have k2 := K.out.at (i := 2) rfl
  have k3 := K.out.at (i := 3) rfl
  have k4 := K.out.at (i := 4) rfl
  have k5 := K.out.at (i := 5) rfl
  rcases h1 : inB ga 0 65535 with _ | _
  · go_enter Try.func221, Try.ntmps221
    go_wp2_with (first | (go_at_call 107; refine (l4Short_any _ _).mono ?_; rintro e w' ⟨rfl, rfl⟩) | (go_at_call 108; refine (l1In_any _ _ _ _).mono ?_; rintro e w' ⟨rfl, rfl⟩))
    go_ret
    exact ⟨ret_bool (by rw [Hgo.out]; simp [h1]), HB.out⟩
  go_enter Try.func221, Try.ntmps221
  go_wp2_with (first | (go_at_call 107; refine (l4Short_any _ _).mono ?_; rintro e w' ⟨rfl, rfl⟩) | (go_at_call 108; refine (l1In_any _ _ _ _).mono ?_; rintro e w' ⟨rfl, rfl⟩))
  refine (l13Up_r _ g.xActive _ _ _ (H2.out.below HB.out)).mono ?_
  rintro e w1 ⟨rfl, b'⟩
  replace K := Lib.hid (K.out.keep b')
  replace HB := Lib.hid (HB.out.trans (b'.mono HB.out.size))
  clear b'
  replace k0 := K.out.at (i := 0) rfl
  replace k1 := K.out.at (i := 1) rfl
  replace k2 := K.out.at (i := 2) rfl
  replace k3 := K.out.at (i := 3) rfl
  replace k4 := K.out.at (i := 4) rfl
  replace k5 := K.out.at (i := 5) rfl
  rcases h2 : upF 1 9 g.xActive with _ | _
  · go_wp2
    go_ret
    exact ⟨ret_bool (by rw [Hgo.out]; simp [h1, h2]), HB.out⟩
  go_wp2_with fail
  refine (l13Up_r _ g.xAsked _ _ _ (H3.out.below HB.out)).mono ?_
  rintro e w1 ⟨rfl, b'⟩
  replace K := Lib.hid (K.out.keep b')
  replace HB := Lib.hid (HB.out.trans (b'.mono HB.out.size))
  clear b'
  replace k0 := K.out.at (i := 0) rfl
  replace k1 := K.out.at (i := 1) rfl
  replace k2 := K.out.at (i := 2) rfl
  replace k3 := K.out.at (i := 3) rfl
  replace k4 := K.out.at (i := 4) rfl
  replace k5 := K.out.at (i := 5) rfl
  rcases h3 : upF 1 9 g.xAsked with _ | _
  · go_wp2
    go_ret
    exact ⟨ret_bool (by rw [Hgo.out]; simp [h1, h2, h3]), HB.out⟩
  rcases Nat.lt_or_ge 6 k with h4 | h4
  · go_wp2
    go_ret
    exact ⟨ret_bool (by rw [Hgo.out, decide_eq_false (Nat.not_le.2 h4)]; simp), HB.out⟩
  go_wp2_with fail
  refine (l13Up_r _ g.xOff _ _ _ (H4.out.below HB.out)).mono ?_
  rintro e w1 ⟨rfl, b'⟩
  replace K := Lib.hid (K.out.keep b')
  replace HB := Lib.hid (HB.out.trans (b'.mono HB.out.size))
  clear b'
  replace k0 := K.out.at (i := 0) rfl
  replace k1 := K.out.at (i := 1) rfl
  replace k2 := K.out.at (i := 2) rfl
  replace k3 := K.out.at (i := 3) rfl
  replace k4 := K.out.at (i := 4) rfl
  replace k5 := K.out.at (i := 5) rfl
  rcases h5 : upF 0 999 g.xOff with _ | _
  · go_wp2
    go_ret
    exact ⟨ret_bool (by rw [Hgo.out]; simp [h5]), HB.out⟩
  rcases h6 : inB ja 0 3 with _ | _
  · go_wp2_with (go_at_call 108; refine (l1In_any _ _ _ _).mono ?_; rintro e w' ⟨rfl, rfl⟩)
    go_ret
    exact ⟨ret_bool (by rw [Hgo.out]; simp [h6]), HB.out⟩
  rcases up with _ | _
  · go_wp2_with (go_at_call 108; refine (l1In_any _ _ _ _).mono ?_; rintro e w' ⟨rfl, rfl⟩)
    all_goals
      go_ret
      exact ⟨ret_bool (by rw [Hgo.out, h1, h2, h3, h5, h6, decide_eq_true h4]; simp [*] <;> rfl), HB.out⟩
  · go_wp2_with (go_at_call 108; refine (l1In_any _ _ _ _).mono ?_; rintro e w' ⟨rfl, rfl⟩)
    go_ret
    exact ⟨ret_bool (by rw [Hgo.out, h1, h2, h3, h5, h6, decide_eq_true h4]; rfl), HB.out⟩
set_option maxRecDepth 100000 in
set_option maxHeartbeats 8000000 in
theorem specAspOk_r (cs : List Value) (x : DAspBook) (w : World) (h : FAspBook w cs x) : Calls Try.prog 110 #[.agg cs.toArray] w fun e w' => e = .returned (.bool (aspOk x)) ∧ Below w.heap.size w w' := by
  obtain ⟨v0, v1, rfl, h0, h1⟩ := h
  obtain ⟨A, a, rfl⟩ := h0.slice
  obtain ⟨B, b, rfl⟩ := RdS.slice h1
  have hca := h0.cap
  have hcb := RdS.cap h1
  have H0 := Lib.hid h0
  have H1 := Lib.hid h1
  clear h0 h1
  have Hao := Lib.hid (show aspOk x = (upF 1 9 x.xWish && (decide (x.xWish.length ≤ 4) && (decide (x.xGates.length ≤ 2) && allI (bookGood x.xGates) x.xGates))) from rfl)
  have Hbg := Lib.hid (show ∀ j g, bookGood x.xGates j g = (gateOkF g && (decide (j = 0) || decide (prevG x.xGates j < g.xGate))) from fun _ _ => rfl)
  have Hpr := Lib.hid (show ∀ (q : Nat) (g : DAspGate), x.xGates[q]? = some g → prevG x.xGates (q + 1) = g.xGate from fun q g h => prevG_succ h)
  generalize aspOk x = all at *
  generalize bookGood x.xGates = bg at *
  generalize prevG x.xGates = pv at *
  generalize hn : x.xWish.length = n at *
  generalize hm : x.xGates.length = m at *
  have Hn := Lib.hid hn
  have Hm := Lib.hid hm
  clear hn hm
  have K := Lib.hid (Blk.new (w := w) (b := w.heap.size) #[.slice A n a, .slice B m b] 38 rfl)
  have HB := Lib.hid ((Below.refl w.heap.size w).alloc (Nat.le_refl _) (.cells #[.slice A n a, .slice B m b] 38))
  go_enter Try.func110, Try.ntmps110
  go_wp2_with fail
  refine (l13Up_r _ x.xWish _ _ _ (H0.out.below HB.out)).mono ?_
  rintro e w1 ⟨rfl, b'⟩
  replace K := Lib.hid (K.out.keep b')
  replace HB := Lib.hid (HB.out.trans (b'.mono HB.out.size))
  clear b'
  have k0 := K.out.at (i := 0) rfl
  have k1 := K.out.at (i := 1) rfl
  rcases hw : upF 1 9 x.xWish with _ | _
  · go_wp2
    go_ret
    exact ⟨ret_bool (by rw [Hao.out, hw]; rfl), HB.out⟩
  rcases Nat.lt_or_ge 4 n with h4 | h4
  · go_wp2
    go_ret
    exact ⟨ret_bool (by rw [Hao.out, decide_eq_false (Nat.not_le.2 h4)]; simp), HB.out⟩
  rcases Nat.lt_or_ge 2 m with h2 | h2
  · go_wp2
    go_ret
    exact ⟨ret_bool (by rw [Hao.out, decide_eq_false (Nat.not_le.2 h2)]; simp), HB.out⟩
  go_wp2
  clear k0 k1
  go_loopw [3] (fun i w1 => ∃ j : Nat, j ≤ m ∧ i = .int .i64 j ∧ Blk w1 w.heap.size [.slice A n a, .slice B m b] ∧ Below w.heap.size w w1 ∧ UpTo bg x.xGates j) (fun i _ => m - (intOf i).toNat)
  case atStart => exact ⟨0, by omega, rfl, K.out, HB.out, UpTo.zero⟩
  case round =>
    clear K HB
    obtain ⟨j, hj, rfl, hk1, hb1, hu⟩ := hrel
    have Hu := Lib.hid hu
    have K := Lib.hid hk1
    have HB := Lib.hid hb1
    clear hu hk1 hb1
    have k1 := K.out.at (i := 1) rfl
    by_cases hlt : j < m
    · obtain ⟨ad, cs, hk, rfl, hcl, hca', hE⟩ := RdS.at_ (H1.out.below HB.out) hlt
      have HE := Lib.hid hE
      obtain ⟨v2, v3, v4, rfl, g2, g3, g4⟩ := hE
      have HC := Lib.hid hca'
      clear hca' hcl g2 g3 g4
      have hjn : (j : Int) < m := by omega
      have Hbg' := Lib.hid (Hbg.out j x.xGates[j])
      rcases hA : gateOkF x.xGates[j] with _ | _
      · have Hbad := Lib.hid (show bg j x.xGates[j] = false by rw [Hbg'.out, hA]; rfl)
        go_wp2_with fail
        refine wp_region_steady (fun y => Blk y w.heap.size [.slice A n a, .slice (some ad) m b] ∧ CellsAt y (ad.add (j * 6)) [.int .i64 x.xGates[j].xGate, .bool x.xGates[j].xUp, v2, v3, v4, .int .i64 x.xGates[j].xJam] ∧ FAspGate y [.int .i64 x.xGates[j].xGate, .bool x.xGates[j].xUp, v2, v3, v4, .int .i64 x.xGates[j].xJam] x.xGates[j] ∧ Below wr.heap.size wr y) (by kernel_rfl) (by kernel_rfl) (⟨K.out.drew, HC.out.below (Below.refl _ _).drew, HE.out.below (Below.refl _ _).drew, (Below.refl _ _).drew⟩) ?_
        repeat
          (first
            | (refine steady_no (by rfl) ?_)
            | (refine' steady_val (v := _) (by rfl) ?_ ?_
               rotate_left
               focus (intro y hS; have k1 := hS.1.at (i := 1) rfl; have c0 := hS.2.1.c0; have c1 := hS.2.1.ci 0 rfl; have c2 := hS.2.1.ci 1 rfl; have c3 := hS.2.1.ci 2 rfl; have c4 := hS.2.1.ci 3 rfl; have c5 := hS.2.1.ci 4 rfl; clear hS; go_simp; first | done | with_reducible rfl))
            | (refine' steady_call (f := _) (args := _) _ (by rfl) ?_ ?_ ?_
               rotate_left 3
               focus (intro y hS; have k1 := hS.1.at (i := 1) rfl; have c0 := hS.2.1.c0; have c1 := hS.2.1.ci 0 rfl; have c2 := hS.2.1.ci 1 rfl; have c3 := hS.2.1.ci 2 rfl; have c4 := hS.2.1.ci 3 rfl; have c5 := hS.2.1.ci 4 rfl; clear hS; go_simp; first | done | with_reducible rfl | (refine ⟨?_, ?_⟩ <;> with_reducible rfl))
               focus (intro y hS; first
                | (refine (l14GateOk_r _ x.xGates[j] y hS.2.2.1).mono ?_; rintro e y' ⟨rfl, b⟩; exact ⟨by rw [hA], hS.1.keep b, hS.2.1.below b, hS.2.2.1.below b, belowOn hS.2.2.2 hS.2.2.2.size b⟩)))
           simp only [Act.put, List.setIfInBounds_toArray, List.set_cons_zero, List.set_cons_succ])
        refine steady_nil ?_
        intro w3 hS3
        replace K := Lib.hid hS3.1
        replace HB := Lib.hid (belowOn HB.out HB.out.size hS3.2.2.2)
        clear hS3 k1
        have k1 := K.out.at (i := 1) rfl
        go_wp2
        go_ret
        exact ⟨ret_bool (by have hb := allI_bad hk Hbad.out; rw [Hao.out, hb]; simp), HB.out⟩
      rcases Nat.eq_zero_or_pos j with h0 | h0
      · have h0' : ((0 : Int) < (j : Int)) = False := by simp [h0]
        have h0n : (0 < j) = False := by simp [h0]
        have Hgood := Lib.hid (show bg j x.xGates[j] = true by rw [Hbg'.out, hA, decide_eq_true h0]; rfl)
        clear h0
        go_wp2_with fail
        refine wp_region_steady (fun y => Blk y w.heap.size [.slice A n a, .slice (some ad) m b] ∧ CellsAt y (ad.add (j * 6)) [.int .i64 x.xGates[j].xGate, .bool x.xGates[j].xUp, v2, v3, v4, .int .i64 x.xGates[j].xJam] ∧ FAspGate y [.int .i64 x.xGates[j].xGate, .bool x.xGates[j].xUp, v2, v3, v4, .int .i64 x.xGates[j].xJam] x.xGates[j] ∧ Below wr.heap.size wr y) (by kernel_rfl) (by kernel_rfl) (⟨K.out.drew, HC.out.below (Below.refl _ _).drew, HE.out.below (Below.refl _ _).drew, (Below.refl _ _).drew⟩) ?_
        repeat
          (first
            | (refine steady_no (by rfl) ?_)
            | (refine' steady_val (v := _) (by rfl) ?_ ?_
               rotate_left
               focus (intro y hS; have k1 := hS.1.at (i := 1) rfl; have c0 := hS.2.1.c0; have c1 := hS.2.1.ci 0 rfl; have c2 := hS.2.1.ci 1 rfl; have c3 := hS.2.1.ci 2 rfl; have c4 := hS.2.1.ci 3 rfl; have c5 := hS.2.1.ci 4 rfl; clear hS; go_simp; first | done | with_reducible rfl))
            | (refine' steady_call (f := _) (args := _) _ (by rfl) ?_ ?_ ?_
               rotate_left 3
               focus (intro y hS; have k1 := hS.1.at (i := 1) rfl; have c0 := hS.2.1.c0; have c1 := hS.2.1.ci 0 rfl; have c2 := hS.2.1.ci 1 rfl; have c3 := hS.2.1.ci 2 rfl; have c4 := hS.2.1.ci 3 rfl; have c5 := hS.2.1.ci 4 rfl; clear hS; go_simp; first | done | with_reducible rfl | (refine ⟨?_, ?_⟩ <;> with_reducible rfl))
               focus (intro y hS; first
                | (refine (l14GateOk_r _ x.xGates[j] y hS.2.2.1).mono ?_; rintro e y' ⟨rfl, b⟩; exact ⟨by rw [hA], hS.1.keep b, hS.2.1.below b, hS.2.2.1.below b, belowOn hS.2.2.2 hS.2.2.2.size b⟩)))
           simp only [Act.put, List.setIfInBounds_toArray, List.set_cons_zero, List.set_cons_succ])
        refine steady_nil ?_
        intro w3 hS3
        replace K := Lib.hid hS3.1
        replace HB := Lib.hid (belowOn HB.out HB.out.size hS3.2.2.2)
        clear hS3 k1
        have k1 := K.out.at (i := 1) rfl
        go_wp2
        exact ⟨⟨j + 1, by omega, by go_num, K.out, HB.out, Hu.out.succ hk Hgood.out⟩, by simp [intOf]; omega⟩
      · have hj0 : (0 : Int) < (j : Int) := by omega
        obtain ⟨q, hq⟩ : ∃ q, q + 1 = j := ⟨j - 1, by omega⟩
        have hsub : IntKind.i64.wrap ((j : Int) - 1) = (q : Int) := by rw [IntWalk.i64_in _ (by omega)]; omega
        have hqn : (q : Int) < m := by omega
        obtain ⟨ad', cs', hkm, hae, hcl, hca', hE'⟩ := RdS.at_ (H1.out.below HB.out) (show q < m by omega)
        injection hae with hae
        subst hae
        obtain ⟨t2, t3, t4, rfl, _, _, _⟩ := hE'
        have HM := Lib.hid hca'
        have Hp := Lib.hid (show pv j = x.xGates[q].xGate from by rw [← hq]; exact Hpr.out q x.xGates[q] (List.getElem?_eq_getElem hkm))
        have Hj0 := Lib.hid (show ¬ j = 0 by omega)
        clear hca' hcl hq
        by_cases hC : x.xGates[q].xGate < x.xGates[j].xGate
        · have hC' : decide (x.xGates[j].xGate ≤ x.xGates[q].xGate) = false := by simp; omega
          have Hgood := Lib.hid (show bg j x.xGates[j] = true by rw [Hbg'.out, hA, Hp.out, decide_eq_true hC]; simp)
          go_wp2_with fail
          refine wp_region_steady (fun y => Blk y w.heap.size [.slice A n a, .slice (some ad) m b] ∧ CellsAt y (ad.add (j * 6)) [.int .i64 x.xGates[j].xGate, .bool x.xGates[j].xUp, v2, v3, v4, .int .i64 x.xGates[j].xJam] ∧ FAspGate y [.int .i64 x.xGates[j].xGate, .bool x.xGates[j].xUp, v2, v3, v4, .int .i64 x.xGates[j].xJam] x.xGates[j] ∧ CellsAt y (ad.add (q * 6)) [.int .i64 x.xGates[q].xGate, .bool x.xGates[q].xUp, t2, t3, t4, .int .i64 x.xGates[q].xJam] ∧ Below wr.heap.size wr y) (by kernel_rfl) (by kernel_rfl) (⟨K.out.drew, HC.out.below (Below.refl _ _).drew, HE.out.below (Below.refl _ _).drew, HM.out.below (Below.refl _ _).drew, (Below.refl _ _).drew⟩) ?_
          repeat
            (first
              | (refine steady_no (by rfl) ?_)
              | (refine' steady_val (v := _) (by rfl) ?_ ?_
                 rotate_left
                 focus (intro y hS; have k1 := hS.1.at (i := 1) rfl; have c0 := hS.2.1.c0; have c1 := hS.2.1.ci 0 rfl; have c2 := hS.2.1.ci 1 rfl; have c3 := hS.2.1.ci 2 rfl; have c4 := hS.2.1.ci 3 rfl; have c5 := hS.2.1.ci 4 rfl; have d0 := hS.2.2.2.1.c0; clear hS; go_simp; first | done | with_reducible rfl))
              | (refine' steady_call (f := _) (args := _) _ (by rfl) ?_ ?_ ?_
                 rotate_left 3
                 focus (intro y hS; have k1 := hS.1.at (i := 1) rfl; have c0 := hS.2.1.c0; have c1 := hS.2.1.ci 0 rfl; have c2 := hS.2.1.ci 1 rfl; have c3 := hS.2.1.ci 2 rfl; have c4 := hS.2.1.ci 3 rfl; have c5 := hS.2.1.ci 4 rfl; have d0 := hS.2.2.2.1.c0; clear hS; go_simp; first | done | with_reducible rfl | (refine ⟨?_, ?_⟩ <;> with_reducible rfl))
                 focus (intro y hS; first
                  | (refine (l14GateOk_r _ x.xGates[j] y hS.2.2.1).mono ?_; rintro e y' ⟨rfl, b⟩; exact ⟨by rw [hA], hS.1.keep b, hS.2.1.below b, hS.2.2.1.below b, hS.2.2.2.1.below b, belowOn hS.2.2.2.2 hS.2.2.2.2.size b⟩)))
             simp only [Act.put, List.setIfInBounds_toArray, List.set_cons_zero, List.set_cons_succ])
          refine steady_nil ?_
          intro w3 hS3
          replace K := Lib.hid hS3.1
          replace HB := Lib.hid (belowOn HB.out HB.out.size hS3.2.2.2.2)
          clear hS3 k1
          have k1 := K.out.at (i := 1) rfl
          go_wp2
          exact ⟨⟨j + 1, by omega, by go_num, K.out, HB.out, Hu.out.succ hk Hgood.out⟩, by simp [intOf]; omega⟩
        · have hC' : decide (x.xGates[j].xGate ≤ x.xGates[q].xGate) = true := by simp; omega
          have Hbad := Lib.hid (show bg j x.xGates[j] = false by rw [Hbg'.out, hA, Hp.out, decide_eq_false hC, decide_eq_false Hj0.out]; rfl)
          go_wp2_with fail
          refine wp_region_steady (fun y => Blk y w.heap.size [.slice A n a, .slice (some ad) m b] ∧ CellsAt y (ad.add (j * 6)) [.int .i64 x.xGates[j].xGate, .bool x.xGates[j].xUp, v2, v3, v4, .int .i64 x.xGates[j].xJam] ∧ FAspGate y [.int .i64 x.xGates[j].xGate, .bool x.xGates[j].xUp, v2, v3, v4, .int .i64 x.xGates[j].xJam] x.xGates[j] ∧ CellsAt y (ad.add (q * 6)) [.int .i64 x.xGates[q].xGate, .bool x.xGates[q].xUp, t2, t3, t4, .int .i64 x.xGates[q].xJam] ∧ Below wr.heap.size wr y) (by kernel_rfl) (by kernel_rfl) (⟨K.out.drew, HC.out.below (Below.refl _ _).drew, HE.out.below (Below.refl _ _).drew, HM.out.below (Below.refl _ _).drew, (Below.refl _ _).drew⟩) ?_
          repeat
            (first
              | (refine steady_no (by rfl) ?_)
              | (refine' steady_val (v := _) (by rfl) ?_ ?_
                 rotate_left
                 focus (intro y hS; have k1 := hS.1.at (i := 1) rfl; have c0 := hS.2.1.c0; have c1 := hS.2.1.ci 0 rfl; have c2 := hS.2.1.ci 1 rfl; have c3 := hS.2.1.ci 2 rfl; have c4 := hS.2.1.ci 3 rfl; have c5 := hS.2.1.ci 4 rfl; have d0 := hS.2.2.2.1.c0; clear hS; go_simp; first | done | with_reducible rfl))
              | (refine' steady_call (f := _) (args := _) _ (by rfl) ?_ ?_ ?_
                 rotate_left 3
                 focus (intro y hS; have k1 := hS.1.at (i := 1) rfl; have c0 := hS.2.1.c0; have c1 := hS.2.1.ci 0 rfl; have c2 := hS.2.1.ci 1 rfl; have c3 := hS.2.1.ci 2 rfl; have c4 := hS.2.1.ci 3 rfl; have c5 := hS.2.1.ci 4 rfl; have d0 := hS.2.2.2.1.c0; clear hS; go_simp; first | done | with_reducible rfl | (refine ⟨?_, ?_⟩ <;> with_reducible rfl))
                 focus (intro y hS; first
                  | (refine (l14GateOk_r _ x.xGates[j] y hS.2.2.1).mono ?_; rintro e y' ⟨rfl, b⟩; exact ⟨by rw [hA], hS.1.keep b, hS.2.1.below b, hS.2.2.1.below b, hS.2.2.2.1.below b, belowOn hS.2.2.2.2 hS.2.2.2.2.size b⟩)))
             simp only [Act.put, List.setIfInBounds_toArray, List.set_cons_zero, List.set_cons_succ])
          refine steady_nil ?_
          intro w3 hS3
          replace K := Lib.hid hS3.1
          replace HB := Lib.hid (belowOn HB.out HB.out.size hS3.2.2.2.2)
          clear hS3 k1
          have k1 := K.out.at (i := 1) rfl
          go_wp2
          go_ret
          exact ⟨ret_bool (by have hb := allI_bad hk Hbad.out; rw [Hao.out, hb]; simp), HB.out⟩
    · go_wp2
      go_ret
      exact ⟨ret_bool (by have h := Hu.out.done (by rw [Hm.out]; omega); rw [Hao.out, hw, h, decide_eq_true h4, decide_eq_true h2]; rfl), HB.out⟩
end Go.Proofs.Ythdjjgbjemaabaa
