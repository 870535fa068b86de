/-
  Is a server's book ok? The program's contract. (Written by wip/tools/genaspok.py.)
-/
import Derived.Test.YthdjjgbjemaabaaAspOkI
import Derived.Test.YthdjjgbjemaabaaFreeG
import Derived.Deep.QuietTactic
import Derived.BigQuiet
namespace Go.Proofs.Ythdjjgbjemaabaa
open Go.ChangeShapes Go.WideShapes Go.ChangeAt Go.RowKit
set_option linter.unusedVariables false
set_option linter.unusedSimpArgs false


set_option maxRecDepth 100000 in
set_option maxHeartbeats 8000000 in
theorem implAspOk_w (cs : List Value) (x : DAspBook) (w : World) (h : FAspBook w cs x) (hz : x.xWish.length ≤ 1048576 ∧ ∀ (j : Nat) (g : DAspGate), x.xGates[j]? = some g → g.xActive.length ≤ 1048576 ∧ g.xAsked.length ≤ 1048576 ∧ g.xOff.length ≤ 1048576) : Calls Try.prog 113 #[.agg cs.toArray] w fun e w' => e = .returned (.bool (aspOk x)) ∧ Below w.heap.size w w' := by
  have Hz := Lib.hid hz
  clear hz
  obtain ⟨v0, v1, rfl, h0, h1⟩ := h
  obtain ⟨A, a, rfl⟩ := h0.slice
  obtain ⟨B, b, rfl⟩ := RdS.slice h1
  have hca := h0.cap
  have hcb := RdS.cap h1
  have H0 := Lib.hid h0
  have H1 := Lib.hid h1
  clear h0 h1
  have Hao := Lib.hid (show aspOk x = (upF 1 9 x.xWish && (decide (x.xWish.length ≤ 4) && (decide (x.xGates.length ≤ 2) && allI (bookGood x.xGates) x.xGates))) from rfl)
  have Hbg := Lib.hid (show ∀ j g, bookGood x.xGates j g = (gateOkF g && (decide (j = 0) || decide (prevG x.xGates j < g.xGate))) from fun _ _ => rfl)
  have Hpr := Lib.hid (show ∀ (q : Nat) (g : DAspGate), x.xGates[q]? = some g → prevG x.xGates (q + 1) = g.xGate from fun q g h => prevG_succ h)
  generalize aspOk x = all at *
  generalize bookGood x.xGates = bg at *
  generalize prevG x.xGates = pv at *
  generalize hn : x.xWish.length = n at *
  generalize hm : x.xGates.length = m at *
  have Hn := Lib.hid hn
  have Hm := Lib.hid hm
  clear hn hm
  have K := Lib.hid (Blk.new (w := w) (b := w.heap.size) #[.slice A n a, .slice B m b] 38 rfl)
  have HB := Lib.hid ((Below.refl w.heap.size w).alloc (Nat.le_refl _) (.cells #[.slice A n a, .slice B m b] 38))
  rcases Nat.lt_or_ge 2 m with h2 | h2
  · go_enter Try.func113, Try.ntmps113
    go_wp2
    go_ret
    exact ⟨ret_bool (by rw [Hao.out, decide_eq_false (Nat.not_le.2 h2)]; simp), HB.out⟩
  go_enter Try.func113, Try.ntmps113
  go_wp2_with fail
  refine (aspWishes_n _ x.xWish _ (H0.out.below HB.out) (by rw [Hn.out]; exact Hz.out.1)).mono ?_
  rintro e w1 ⟨u, f, rfl, ho, _, b'⟩
  replace K := Lib.hid (K.out.keep b')
  replace HB := Lib.hid (HB.out.trans (b'.mono HB.out.size))
  have Hu := Lib.hid ho.rd
  clear b' ho
  go_wp2_with fail
  refine (aspSetFits_r _ x.xWish _ _ _ _ Hu.out).mono ?_
  rintro e w1 ⟨rfl, b'⟩
  replace K := Lib.hid (K.out.keep b')
  replace HB := Lib.hid (HB.out.trans (b'.mono HB.out.size))
  clear b' Hu
  have k1 := K.out.at (i := 1) rfl
  have Hwl := Lib.hid (show (decide ((x.xWish.length : Int) ≤ 4) && upF 1 9 x.xWish) = (upF 1 9 x.xWish && decide (n ≤ 4)) by
    rw [Hn.out, Bool.and_comm]; congr 1; simp; omega)
  rcases hw : (decide ((x.xWish.length : Int) ≤ 4) && upF 1 9 x.xWish) with _ | _
  · go_wp2
    go_ret
    exact ⟨ret_bool (by rw [Hao.out, ← Bool.and_assoc, ← Hwl.out, hw]; rfl), HB.out⟩
  have Hwf := Lib.hid (show (upF 1 9 x.xWish && decide (n ≤ 4)) = true by rw [← Hwl.out, hw])
  clear hw Hwl
  go_wp2
  clear k1
  go_loopw [19] (fun i w1 => ∃ j : Nat, j ≤ m ∧ i = .int .i64 j ∧ Blk w1 w.heap.size [.slice A n a, .slice B m b] ∧ Below w.heap.size w w1 ∧ UpTo bg x.xGates j) (fun i _ => m - (intOf i).toNat)
  case atStart => exact ⟨0, by omega, rfl, K.out, HB.out, UpTo.zero⟩
  case round =>
    clear K HB
    obtain ⟨j, hj, rfl, hk1, hb1, hu⟩ := hrel
    have Hu := Lib.hid hu
    have K := Lib.hid hk1
    have HB := Lib.hid hb1
    clear hu hk1 hb1
    by_cases hlt : j < m
    · obtain ⟨ad, cs, hk, rfl, hcl, hca', hE⟩ := RdS.at_ (H1.out.below HB.out) hlt
      obtain ⟨v2, v3, v4, rfl, g2, g3, g4⟩ := hE
      obtain ⟨B2, q2, rfl⟩ := g2.slice
      obtain ⟨B3, q3, rfl⟩ := g3.slice
      obtain ⟨B4, q4, rfl⟩ := g4.slice
      have c0 := hca'.c0
      have c1 := hca'.ci 0 rfl
      have c2 := hca'.ci 1 rfl
      have c3 := hca'.ci 2 rfl
      have c4 := hca'.ci 3 rfl
      have c5 := hca'.ci 4 rfl
      clear hca' hcl g2 g3 g4
      have hjn : (j : Int) < m := by omega
      have Hbg' := Lib.hid (Hbg.out j x.xGates[j])
      go_wp2_with fail
      generalize hw2 : World.alloc wr _ = w2
      have KS := Lib.hid (show Blk w2 wr.heap.size [.int .i64 x.xGates[j].xGate, .bool x.xGates[j].xUp, .slice B2 x.xGates[j].xActive.length q2, .slice B3 x.xGates[j].xAsked.length q3, .slice B4 x.xGates[j].xOff.length q4, .int .i64 x.xGates[j].xJam] by rw [← hw2]; exact Blk.new _ _ rfl)
      replace K := Lib.hid (show Blk w2 w.heap.size [.slice A n a, .slice (some ad) m b] by rw [← hw2]; exact K.out.alloc _)
      replace HB := Lib.hid (show Below w.heap.size w w2 by rw [← hw2]; exact HB.out.alloc HB.out.size _)
      clear hw2 c0 c1 c2 c3 c4 c5
      generalize wr.heap.size = kb at *
      have k0 := K.out.at (i := 0) rfl
      have k1 := K.out.at (i := 1) rfl
      have s0 := KS.out.at (i := 0) rfl
      rcases hA : inB x.xGates[j].xGate 0 65535 with _ | _
      · have Hbad := Lib.hid (show bg j x.xGates[j] = false by rw [Hbg'.out, gateOkF_eq, hA]; rfl)
        go_quiet (first | (go_at_call 103; exact frmShort_q _ _ hA _ _))
        go_wp2
        go_ret
        exact ⟨ret_bool (by have hb := allI_bad hk Hbad.out; rw [Hao.out, hb]; simp), below_dN HB.out _⟩
      have Hgk := Lib.hid (show gateOkF x.xGates[j] = talkF x.xGates[j] by rw [gateOkF_eq, hA]; rfl)
      rcases Nat.eq_zero_or_pos j with h0 | h0
      · have h0' : ((0 : Int) < (j : Int)) = False := by simp [h0]
        have h0n : (0 < j) = False := by simp [h0]
        have Hj0 := Lib.hid h0
        clear h0
        refine wp_region_freeG 23 (fun y => Blk y w.heap.size [.slice A n a, .slice (some ad) m b] ∧ Blk y kb [.int .i64 x.xGates[j].xGate, .bool x.xGates[j].xUp, .slice B2 x.xGates[j].xActive.length q2, .slice B3 x.xGates[j].xAsked.length q3, .slice B4 x.xGates[j].xOff.length q4, .int .i64 x.xGates[j].xJam] ∧ Below w2.heap.size w2 y) (fun _ i v y f => match i with | 0 => v = .pointer (some ⟨kb, 0, none⟩) ∧ f = [] | 1 => v = .int .i64 x.xGates[j].xGate ∧ f = [] | 2 => v = .bool true ∧ f = [] | 3 => v = .bool false ∧ f = [] | 4 => v = .bool false ∧ f = [] | 5 => v = .int .i64 j ∧ f = [] | 6 => v = .bool false ∧ f = [] | 7 => v = .bool false ∧ f = [] | 8 => v = undef ∧ f = [] | 9 => v = undef ∧ f = [] | 10 => v = undef ∧ f = [] | 11 => v = undef ∧ f = [] | 12 => v = undef ∧ f = [] | 13 => v = undef ∧ f = [] | 14 => v = undef ∧ f = [] | 15 => v = undef ∧ f = [] | 16 => v = undef ∧ f = [] | 17 => v = undef ∧ f = [] | 18 => v = .bool false ∧ f = [] | 19 => v = .bool false ∧ f = [] | 20 => v = .bool false ∧ f = [] | 21 => v = .agg #[.slice A n a, .slice (some ad) m b] ∧ f = [] | 22 => v = .int .i64 j ∧ f = [] | _ => False) (fun i => i) (by kernel_rfl) (by kernel_rfl) ?_ (fun _ _ _ _ _ _ _ _ _ h => h) (⟨K.out.drew, KS.out.drew, (Below.refl _ _).drew⟩) ?_ ?_
        · intro _ i v y y' f h hb
          match i, h with
          | 0, h => exact h
          | 1, h => exact h
          | 2, h => exact h
          | 3, h => exact h
          | 4, h => exact h
          | 5, h => exact h
          | 6, h => exact h
          | 7, h => exact h
          | 8, h => exact h
          | 9, h => exact h
          | 10, h => exact h
          | 11, h => exact h
          | 12, h => exact h
          | 13, h => exact h
          | 14, h => exact h
          | 15, h => exact h
          | 16, h => exact h
          | 17, h => exact h
          | 18, h => exact h
          | 19, h => exact h
          | 20, h => exact h
          | 21, h => exact h
          | 22, h => exact h
        · intro vals
          simp only [List.take_succ_cons, List.take_zero, StepsG]
          refine ⟨?_, ?_, ?_, ?_, ?_, ?_, ?_, ?_, ?_, ?_, ?_, ?_, ?_, ?_, ?_, ?_, ?_, ?_, ?_, ?_, ?_, ?_, ?_, trivial⟩
          · intro y fp0 hS hd
            try simp only [Act.put, List.setIfInBounds_toArray, List.set_cons_zero, List.set_cons_succ]
            refine .inl ⟨rfl, FreeUpon.pure (.pointer (some ⟨kb, 0, none⟩)) ?_ ⟨rfl, rfl⟩ hS⟩
            clear hS hd
            go_simp
          · intro y fp0 hS hd
            try simp only [Act.put, List.setIfInBounds_toArray, List.set_cons_zero, List.set_cons_succ]
            have hv0 := (hd { on := 0, ground := Ground.data } (by simp) (by kernel_rfl)).1.1
            have hc := hS.2.1.at (i := 0) rfl
            refine .inl ⟨rfl, FreeUpon.pure (.int .i64 x.xGates[j].xGate) ?_ ⟨rfl, rfl⟩ hS⟩
            try simp only [hv0]
            clear hS hd
            go_simp
          · intro y fp0 hS hd
            try simp only [Act.put, List.setIfInBounds_toArray, List.set_cons_zero, List.set_cons_succ]
            have hv1 := (hd { on := 1, ground := Ground.data } (by simp) (by kernel_rfl)).1.1
            refine .inl ⟨rfl, FreeUpon.call (g := 103) (args := #[.int .i64 x.xGates[j].xGate]) ?_ ((frmShort_any _ _).mono fun e y' h => ⟨_, [], h.1, ⟨by rw [hA], rfl⟩, Nw.nil _ _, by rw [← h.2]; exact Below.refl _ _, by rw [← h.2]; exact hS⟩)⟩
            simp only [hv1]
            go_simp
          · intro y fp0 hS hd
            try simp only [Act.put, List.setIfInBounds_toArray, List.set_cons_zero, List.set_cons_succ]
            have hv2 := (hd { on := 2, ground := Ground.data } (by simp) (by kernel_rfl)).1.1
            refine .inl ⟨rfl, FreeUpon.pure (.bool false) ?_ ⟨rfl, rfl⟩ hS⟩
            try simp only [hv2]
            clear hS hd
            go_simp
          · intro y fp0 hS hd
            try simp only [Act.put, List.setIfInBounds_toArray, List.set_cons_zero, List.set_cons_succ]
            have hv3 := (hd { on := 3, ground := Ground.data } (by simp) (by kernel_rfl)).1.1
            refine .inl ⟨rfl, FreeUpon.pure (.bool false) ?_ ⟨rfl, rfl⟩ hS⟩
            try simp only [hv3]
            clear hS hd
            go_simp
          · intro y fp0 hS hd
            try simp only [Act.put, List.setIfInBounds_toArray, List.set_cons_zero, List.set_cons_succ]
            have hv4 := (hd { on := 4, ground := Ground.guard } (by simp) (by kernel_rfl)).1.1
            refine .inl ⟨(by simp only [hv4]; rfl), FreeUpon.pure (.int .i64 j) ?_ ⟨rfl, rfl⟩ hS⟩
            try simp only [hv4]
            clear hS hd
            go_simp
          · intro y fp0 hS hd
            try simp only [Act.put, List.setIfInBounds_toArray, List.set_cons_zero, List.set_cons_succ]
            have hv5 := (hd { on := 5, ground := Ground.data } (by simp) (by kernel_rfl)).1.1
            have hv4 := (hd { on := 4, ground := Ground.guard } (by simp) (by kernel_rfl)).1.1
            refine .inl ⟨(by simp only [hv4]; rfl), FreeUpon.pure (.bool false) ?_ ⟨rfl, rfl⟩ hS⟩
            try simp only [hv5, hv4]
            clear hS hd
            go_simp
          · intro y fp0 hS hd
            try simp only [Act.put, List.setIfInBounds_toArray, List.set_cons_zero, List.set_cons_succ]
            have hv6 := (hd { on := 6, ground := Ground.data } (by simp) (by kernel_rfl)).1.1
            have hv4 := (hd { on := 4, ground := Ground.guard } (by simp) (by kernel_rfl)).1.1
            refine .inl ⟨(by simp only [hv4]; rfl), FreeUpon.pure (.bool false) ?_ ⟨rfl, rfl⟩ hS⟩
            try simp only [hv6, hv4]
            clear hS hd
            go_simp
          · intro y fp0 hS hd
            try simp only [Act.put, List.setIfInBounds_toArray, List.set_cons_zero, List.set_cons_succ]
            have hv7 := (hd { on := 7, ground := Ground.guard } (by simp) (by kernel_rfl)).1.1
            exact .inr ⟨(by simp only [hv7]; rfl), by first | exact ⟨rfl, rfl⟩ | simp⟩
          · intro y fp0 hS hd
            try simp only [Act.put, List.setIfInBounds_toArray, List.set_cons_zero, List.set_cons_succ]
            have hv8 := (hd { on := 8, ground := Ground.data } (by simp) (by kernel_rfl)).1.1
            have hv7 := (hd { on := 7, ground := Ground.guard } (by simp) (by kernel_rfl)).1.1
            exact .inr ⟨(by simp only [hv7]; rfl), by first | exact ⟨rfl, rfl⟩ | simp⟩
          · intro y fp0 hS hd
            try simp only [Act.put, List.setIfInBounds_toArray, List.set_cons_zero, List.set_cons_succ]
            have hv7 := (hd { on := 7, ground := Ground.guard } (by simp) (by kernel_rfl)).1.1
            exact .inr ⟨(by simp only [hv7]; rfl), by first | exact ⟨rfl, rfl⟩ | simp⟩
          · intro y fp0 hS hd
            try simp only [Act.put, List.setIfInBounds_toArray, List.set_cons_zero, List.set_cons_succ]
            have hv10 := (hd { on := 10, ground := Ground.data } (by simp) (by kernel_rfl)).1.1
            have hv7 := (hd { on := 7, ground := Ground.guard } (by simp) (by kernel_rfl)).1.1
            exact .inr ⟨(by simp only [hv7]; rfl), by first | exact ⟨rfl, rfl⟩ | simp⟩
          · intro y fp0 hS hd
            try simp only [Act.put, List.setIfInBounds_toArray, List.set_cons_zero, List.set_cons_succ]
            have hv7 := (hd { on := 7, ground := Ground.guard } (by simp) (by kernel_rfl)).1.1
            exact .inr ⟨(by simp only [hv7]; rfl), by first | exact ⟨rfl, rfl⟩ | simp⟩
          · intro y fp0 hS hd
            try simp only [Act.put, List.setIfInBounds_toArray, List.set_cons_zero, List.set_cons_succ]
            have hv12 := (hd { on := 12, ground := Ground.data } (by simp) (by kernel_rfl)).1.1
            have hv7 := (hd { on := 7, ground := Ground.guard } (by simp) (by kernel_rfl)).1.1
            exact .inr ⟨(by simp only [hv7]; rfl), by first | exact ⟨rfl, rfl⟩ | simp⟩
          · intro y fp0 hS hd
            try simp only [Act.put, List.setIfInBounds_toArray, List.set_cons_zero, List.set_cons_succ]
            have hv11 := (hd { on := 11, ground := Ground.data } (by simp) (by kernel_rfl)).1.1
            have hv13 := (hd { on := 13, ground := Ground.data } (by simp) (by kernel_rfl)).1.1
            have hv7 := (hd { on := 7, ground := Ground.guard } (by simp) (by kernel_rfl)).1.1
            exact .inr ⟨(by simp only [hv7]; rfl), by first | exact ⟨rfl, rfl⟩ | simp⟩
          · intro y fp0 hS hd
            try simp only [Act.put, List.setIfInBounds_toArray, List.set_cons_zero, List.set_cons_succ]
            have hv14 := (hd { on := 14, ground := Ground.data } (by simp) (by kernel_rfl)).1.1
            have hv7 := (hd { on := 7, ground := Ground.guard } (by simp) (by kernel_rfl)).1.1
            exact .inr ⟨(by simp only [hv7]; rfl), by first | exact ⟨rfl, rfl⟩ | simp⟩
          · intro y fp0 hS hd
            try simp only [Act.put, List.setIfInBounds_toArray, List.set_cons_zero, List.set_cons_succ]
            have hv15 := (hd { on := 15, ground := Ground.data } (by simp) (by kernel_rfl)).1.1
            have hv7 := (hd { on := 7, ground := Ground.guard } (by simp) (by kernel_rfl)).1.1
            exact .inr ⟨(by simp only [hv7]; rfl), by first | exact ⟨rfl, rfl⟩ | simp⟩
          · intro y fp0 hS hd
            try simp only [Act.put, List.setIfInBounds_toArray, List.set_cons_zero, List.set_cons_succ]
            have hv9 := (hd { on := 9, ground := Ground.data } (by simp) (by kernel_rfl)).1.1
            have hv16 := (hd { on := 16, ground := Ground.data } (by simp) (by kernel_rfl)).1.1
            have hv7 := (hd { on := 7, ground := Ground.guard } (by simp) (by kernel_rfl)).1.1
            exact .inr ⟨(by simp only [hv7]; rfl), by first | exact ⟨rfl, rfl⟩ | simp⟩
          · intro y fp0 hS hd
            try simp only [Act.put, List.setIfInBounds_toArray, List.set_cons_zero, List.set_cons_succ]
            have hv7 := (hd { on := 7, ground := Ground.data } (by simp) (by kernel_rfl)).1.1
            have hv17 := (hd { on := 17, ground := Ground.data } (by simp) (by kernel_rfl)).1.1
            have hv4 := (hd { on := 4, ground := Ground.guard } (by simp) (by kernel_rfl)).1.1
            refine .inl ⟨(by simp only [hv4]; rfl), FreeUpon.pure (.bool false) ?_ ⟨rfl, rfl⟩ hS⟩
            try simp only [hv7, hv17, hv4]
            clear hS hd
            go_simp
          · intro y fp0 hS hd
            try simp only [Act.put, List.setIfInBounds_toArray, List.set_cons_zero, List.set_cons_succ]
            have hv4 := (hd { on := 4, ground := Ground.data } (by simp) (by kernel_rfl)).1.1
            have hv18 := (hd { on := 18, ground := Ground.data } (by simp) (by kernel_rfl)).1.1
            refine .inl ⟨rfl, FreeUpon.pure (.bool false) ?_ ⟨rfl, rfl⟩ hS⟩
            try simp only [hv4, hv18]
            clear hS hd
            go_simp
          · intro y fp0 hS hd
            try simp only [Act.put, List.setIfInBounds_toArray, List.set_cons_zero, List.set_cons_succ]
            have hv19 := (hd { on := 19, ground := Ground.data } (by simp) (by kernel_rfl)).1.1
            refine .inl ⟨rfl, FreeUpon.pure (.bool false) ?_ ⟨rfl, rfl⟩ hS⟩
            try simp only [hv19]
            clear hS hd
            go_simp
          · intro y fp0 hS hd
            try simp only [Act.put, List.setIfInBounds_toArray, List.set_cons_zero, List.set_cons_succ]
            have hv20 := (hd { on := 20, ground := Ground.guard } (by simp) (by kernel_rfl)).1.1
            have hc := hS.1.at (i := 0) rfl; have hc' := hS.1.at (i := 1) rfl
            refine .inl ⟨(by simp only [hv20]; rfl), FreeUpon.pure (.agg #[.slice A n a, .slice (some ad) m b]) ?_ ⟨rfl, rfl⟩ hS⟩
            try simp only [hv20]
            clear hS hd
            go_simp
          · intro y fp0 hS hd
            try simp only [Act.put, List.setIfInBounds_toArray, List.set_cons_zero, List.set_cons_succ]
            have hv20 := (hd { on := 20, ground := Ground.guard } (by simp) (by kernel_rfl)).1.1
            refine .inl ⟨(by simp only [hv20]; rfl), FreeUpon.pure (.int .i64 j) ?_ ⟨rfl, rfl⟩ hS⟩
            try simp only [hv20]
            clear hS hd
            go_simp
        · intro vals fp y hS hb hf
          have Hf := Lib.hid hf
          clear hf
          have e0 : vals 0 = .pointer (some ⟨kb, 0, none⟩) := (Hf.out.1 0 (by omega) rfl).1.1
          have e1 : vals 1 = .int .i64 x.xGates[j].xGate := (Hf.out.1 1 (by omega) rfl).1.1
          have e2 : vals 2 = .bool true := (Hf.out.1 2 (by omega) rfl).1.1
          have e3 : vals 3 = .bool false := (Hf.out.1 3 (by omega) rfl).1.1
          have e4 : vals 4 = .bool false := (Hf.out.1 4 (by omega) rfl).1.1
          have e5 : vals 5 = .int .i64 j := (Hf.out.1 5 (by omega) rfl).1.1
          have e6 : vals 6 = .bool false := (Hf.out.1 6 (by omega) rfl).1.1
          have e7 : vals 7 = .bool false := (Hf.out.1 7 (by omega) rfl).1.1
          have e8 : vals 8 = undef := (Hf.out.1 8 (by omega) rfl).1.1
          have e9 : vals 9 = undef := (Hf.out.1 9 (by omega) rfl).1.1
          have e10 : vals 10 = undef := (Hf.out.1 10 (by omega) rfl).1.1
          have e11 : vals 11 = undef := (Hf.out.1 11 (by omega) rfl).1.1
          have e12 : vals 12 = undef := (Hf.out.1 12 (by omega) rfl).1.1
          have e13 : vals 13 = undef := (Hf.out.1 13 (by omega) rfl).1.1
          have e14 : vals 14 = undef := (Hf.out.1 14 (by omega) rfl).1.1
          have e15 : vals 15 = undef := (Hf.out.1 15 (by omega) rfl).1.1
          have e16 : vals 16 = undef := (Hf.out.1 16 (by omega) rfl).1.1
          have e17 : vals 17 = undef := (Hf.out.1 17 (by omega) rfl).1.1
          have e18 : vals 18 = .bool false := (Hf.out.1 18 (by omega) rfl).1.1
          have e19 : vals 19 = .bool false := (Hf.out.1 19 (by omega) rfl).1.1
          have e20 : vals 20 = .bool false := (Hf.out.1 20 (by omega) rfl).1.1
          have e21 : vals 21 = .agg #[.slice A n a, .slice (some ad) m b] := (Hf.out.1 21 (by omega) rfl).1.1
          have e22 : vals 22 = .int .i64 j := (Hf.out.1 22 (by omega) rfl).1.1
          replace K := Lib.hid hS.1
          replace HB := Lib.hid (HB.out.trans (hb.mono HB.out.size))
          clear hS hb Hf
          simp only [List.take_succ_cons, List.take_zero, List.drop_succ_cons, List.drop_zero, putAll, Act.put, List.setIfInBounds_toArray, List.set_cons_zero, List.set_cons_succ, e0, e1, e2, e3, e4, e5, e6, e7, e8, e9, e10, e11, e12, e13, e14, e15, e16, e17, e18, e19, e20, e21, e22]
          go_wp2_with fail
          have hzj := Hz.out.2 j _ (List.getElem?_eq_getElem hk)
          refine (aspTalkTo_n _ _ x j _ (H0.out.below HB.out) (RdAspGateS.below H1.out HB.out) hk ⟨by rw [Hn.out]; exact Hz.out.1, hzj.1, hzj.2.1, hzj.2.2⟩).mono ?_
          clear hzj
          rintro e w3 ⟨bl, u0, u1, u2, u3, f0, f1, f2, f3, rfl, hkb, _, o1, o2, o3, _, b3⟩
          have KT := Lib.hid hkb
          have O1 := Lib.hid o1.rd
          have O2 := Lib.hid o2.rd
          have O3 := Lib.hid o3.rd
          replace K := Lib.hid (K.out.keep b3)
          replace HB := Lib.hid (HB.out.trans (b3.mono HB.out.size))
          clear hkb o1 o2 o3 b3 k0 k1 s0
          go_wp2_with fail
          refine (talkFits_r _ _ _ _ _ x.xGates[j] _ KT.out O1.out O2.out O3.out).mono ?_
          rintro e w4 ⟨rfl, b4⟩
          replace K := Lib.hid (K.out.keep b4)
          replace HB := Lib.hid (HB.out.trans (b4.mono HB.out.size))
          clear b4
          rcases hT : talkF x.xGates[j] with _ | _
          · have Hbad := Lib.hid (show bg j x.xGates[j] = false by rw [Hbg'.out, Hgk.out, hT]; rfl)
            go_wp2
            go_ret
            exact ⟨ret_bool (by have hb := allI_bad hk Hbad.out; rw [Hao.out, hb]; simp), HB.out⟩
          have Hgood := Lib.hid (show bg j x.xGates[j] = true by rw [Hbg'.out, Hgk.out, hT, decide_eq_true Hj0.out]; simp)
          go_wp2
          exact ⟨⟨j + 1, by omega, by go_num, K.out, HB.out, Hu.out.succ hk Hgood.out⟩, by simp [intOf]; omega⟩
      · have hj0 : (0 : Int) < (j : Int) := by omega
        obtain ⟨q, hq⟩ : ∃ q, q + 1 = j := ⟨j - 1, by omega⟩
        have hsub : IntKind.i64.wrap ((j : Int) - 1) = (q : Int) := by rw [IntWalk.i64_in _ (by omega)]; omega
        have hqn : (q : Int) < m := by omega
        obtain ⟨ad', cs', hkm, hae, hcl, hca', hE'⟩ := RdS.at_ (H1.out.below HB.out) (show q < m by omega)
        injection hae with hae
        subst hae
        obtain ⟨t2, t3, t4, rfl, _, _, _⟩ := hE'
        have d0 := hca'.c0
        have Hp := Lib.hid (show pv j = x.xGates[q].xGate from by rw [← hq]; exact Hpr.out q x.xGates[q] (List.getElem?_eq_getElem hkm))
        have Hj0 := Lib.hid (show ¬ j = 0 by omega)
        clear hca' hcl hq
        by_cases hC : x.xGates[q].xGate < x.xGates[j].xGate
        · have Hc := Lib.hid (decide_eq_true hC)
          have hC' : decide (x.xGates[j].xGate ≤ x.xGates[q].xGate) = false := by simp; omega
          refine wp_region_freeG 23 (fun y => Blk y w.heap.size [.slice A n a, .slice (some ad) m b] ∧ Blk y kb [.int .i64 x.xGates[j].xGate, .bool x.xGates[j].xUp, .slice B2 x.xGates[j].xActive.length q2, .slice B3 x.xGates[j].xAsked.length q3, .slice B4 x.xGates[j].xOff.length q4, .int .i64 x.xGates[j].xJam] ∧ y.cell? (ad.add (q * 6)) = some (.int .i64 x.xGates[q].xGate) ∧ Below w2.heap.size w2 y) (fun _ i v y f => match i with | 0 => v = .pointer (some ⟨kb, 0, none⟩) ∧ f = [] | 1 => v = .int .i64 x.xGates[j].xGate ∧ f = [] | 2 => v = .bool true ∧ f = [] | 3 => v = .bool false ∧ f = [] | 4 => v = .bool false ∧ f = [] | 5 => v = .int .i64 j ∧ f = [] | 6 => v = .bool true ∧ f = [] | 7 => v = .bool true ∧ f = [] | 8 => v = .pointer (some ⟨kb, 0, none⟩) ∧ f = [] | 9 => v = .int .i64 x.xGates[j].xGate ∧ f = [] | 10 => v = .pointer (some ⟨w.heap.size, 1, none⟩) ∧ f = [] | 11 => v = .slice (some ad) m b ∧ f = [] | 12 => v = .int .i64 j ∧ f = [] | 13 => v = .int .i64 q ∧ f = [] | 14 => v = .pointer (some (ad.add (q * 6))) ∧ f = [] | 15 => v = .pointer (some (ad.add (q * 6))) ∧ f = [] | 16 => v = .int .i64 x.xGates[q].xGate ∧ f = [] | 17 => v = .bool false ∧ f = [] | 18 => v = .bool false ∧ f = [] | 19 => v = .bool false ∧ f = [] | 20 => v = .bool false ∧ f = [] | 21 => v = .agg #[.slice A n a, .slice (some ad) m b] ∧ f = [] | 22 => v = .int .i64 j ∧ f = [] | _ => False) (fun i => i) (by kernel_rfl) (by kernel_rfl) ?_ (fun _ _ _ _ _ _ _ _ _ h => h) (⟨K.out.drew, KS.out.drew, cellKeep d0 (Below.refl _ _).drew, (Below.refl _ _).drew⟩) ?_ ?_
          · intro _ i v y y' f h hb
            match i, h with
            | 0, h => exact h
            | 1, h => exact h
            | 2, h => exact h
            | 3, h => exact h
            | 4, h => exact h
            | 5, h => exact h
            | 6, h => exact h
            | 7, h => exact h
            | 8, h => exact h
            | 9, h => exact h
            | 10, h => exact h
            | 11, h => exact h
            | 12, h => exact h
            | 13, h => exact h
            | 14, h => exact h
            | 15, h => exact h
            | 16, h => exact h
            | 17, h => exact h
            | 18, h => exact h
            | 19, h => exact h
            | 20, h => exact h
            | 21, h => exact h
            | 22, h => exact h
          · intro vals
            simp only [List.take_succ_cons, List.take_zero, StepsG]
            refine ⟨?_, ?_, ?_, ?_, ?_, ?_, ?_, ?_, ?_, ?_, ?_, ?_, ?_, ?_, ?_, ?_, ?_, ?_, ?_, ?_, ?_, ?_, ?_, trivial⟩
            · intro y fp0 hS hd
              try simp only [Act.put, List.setIfInBounds_toArray, List.set_cons_zero, List.set_cons_succ]
              refine .inl ⟨rfl, FreeUpon.pure (.pointer (some ⟨kb, 0, none⟩)) ?_ ⟨rfl, rfl⟩ hS⟩
              clear hS hd
              go_simp
            · intro y fp0 hS hd
              try simp only [Act.put, List.setIfInBounds_toArray, List.set_cons_zero, List.set_cons_succ]
              have hv0 := (hd { on := 0, ground := Ground.data } (by simp) (by kernel_rfl)).1.1
              have hc := hS.2.1.at (i := 0) rfl
              refine .inl ⟨rfl, FreeUpon.pure (.int .i64 x.xGates[j].xGate) ?_ ⟨rfl, rfl⟩ hS⟩
              try simp only [hv0]
              clear hS hd
              go_simp
            · intro y fp0 hS hd
              try simp only [Act.put, List.setIfInBounds_toArray, List.set_cons_zero, List.set_cons_succ]
              have hv1 := (hd { on := 1, ground := Ground.data } (by simp) (by kernel_rfl)).1.1
              refine .inl ⟨rfl, FreeUpon.call (g := 103) (args := #[.int .i64 x.xGates[j].xGate]) ?_ ((frmShort_any _ _).mono fun e y' h => ⟨_, [], h.1, ⟨by rw [hA], rfl⟩, Nw.nil _ _, by rw [← h.2]; exact Below.refl _ _, by rw [← h.2]; exact hS⟩)⟩
              simp only [hv1]
              go_simp
            · intro y fp0 hS hd
              try simp only [Act.put, List.setIfInBounds_toArray, List.set_cons_zero, List.set_cons_succ]
              have hv2 := (hd { on := 2, ground := Ground.data } (by simp) (by kernel_rfl)).1.1
              refine .inl ⟨rfl, FreeUpon.pure (.bool false) ?_ ⟨rfl, rfl⟩ hS⟩
              try simp only [hv2]
              clear hS hd
              go_simp
            · intro y fp0 hS hd
              try simp only [Act.put, List.setIfInBounds_toArray, List.set_cons_zero, List.set_cons_succ]
              have hv3 := (hd { on := 3, ground := Ground.data } (by simp) (by kernel_rfl)).1.1
              refine .inl ⟨rfl, FreeUpon.pure (.bool false) ?_ ⟨rfl, rfl⟩ hS⟩
              try simp only [hv3]
              clear hS hd
              go_simp
            · intro y fp0 hS hd
              try simp only [Act.put, List.setIfInBounds_toArray, List.set_cons_zero, List.set_cons_succ]
              have hv4 := (hd { on := 4, ground := Ground.guard } (by simp) (by kernel_rfl)).1.1
              refine .inl ⟨(by simp only [hv4]; rfl), FreeUpon.pure (.int .i64 j) ?_ ⟨rfl, rfl⟩ hS⟩
              try simp only [hv4]
              clear hS hd
              go_simp
            · intro y fp0 hS hd
              try simp only [Act.put, List.setIfInBounds_toArray, List.set_cons_zero, List.set_cons_succ]
              have hv5 := (hd { on := 5, ground := Ground.data } (by simp) (by kernel_rfl)).1.1
              have hv4 := (hd { on := 4, ground := Ground.guard } (by simp) (by kernel_rfl)).1.1
              refine .inl ⟨(by simp only [hv4]; rfl), FreeUpon.pure (.bool true) ?_ ⟨rfl, rfl⟩ hS⟩
              try simp only [hv5, hv4]
              clear hS hd
              go_simp
            · intro y fp0 hS hd
              try simp only [Act.put, List.setIfInBounds_toArray, List.set_cons_zero, List.set_cons_succ]
              have hv6 := (hd { on := 6, ground := Ground.data } (by simp) (by kernel_rfl)).1.1
              have hv4 := (hd { on := 4, ground := Ground.guard } (by simp) (by kernel_rfl)).1.1
              refine .inl ⟨(by simp only [hv4]; rfl), FreeUpon.pure (.bool true) ?_ ⟨rfl, rfl⟩ hS⟩
              try simp only [hv6, hv4]
              clear hS hd
              go_simp
            · intro y fp0 hS hd
              try simp only [Act.put, List.setIfInBounds_toArray, List.set_cons_zero, List.set_cons_succ]
              have hv7 := (hd { on := 7, ground := Ground.guard } (by simp) (by kernel_rfl)).1.1
              refine .inl ⟨(by simp only [hv7]; rfl), FreeUpon.pure (.pointer (some ⟨kb, 0, none⟩)) ?_ ⟨rfl, rfl⟩ hS⟩
              try simp only [hv7]
              clear hS hd
              go_simp
            · intro y fp0 hS hd
              try simp only [Act.put, List.setIfInBounds_toArray, List.set_cons_zero, List.set_cons_succ]
              have hv8 := (hd { on := 8, ground := Ground.data } (by simp) (by kernel_rfl)).1.1
              have hv7 := (hd { on := 7, ground := Ground.guard } (by simp) (by kernel_rfl)).1.1
              have hc := hS.2.1.at (i := 0) rfl
              refine .inl ⟨(by simp only [hv7]; rfl), FreeUpon.pure (.int .i64 x.xGates[j].xGate) ?_ ⟨rfl, rfl⟩ hS⟩
              try simp only [hv8, hv7]
              clear hS hd
              go_simp
            · intro y fp0 hS hd
              try simp only [Act.put, List.setIfInBounds_toArray, List.set_cons_zero, List.set_cons_succ]
              have hv7 := (hd { on := 7, ground := Ground.guard } (by simp) (by kernel_rfl)).1.1
              refine .inl ⟨(by simp only [hv7]; rfl), FreeUpon.pure (.pointer (some ⟨w.heap.size, 1, none⟩)) ?_ ⟨rfl, rfl⟩ hS⟩
              try simp only [hv7]
              clear hS hd
              go_simp
            · intro y fp0 hS hd
              try simp only [Act.put, List.setIfInBounds_toArray, List.set_cons_zero, List.set_cons_succ]
              have hv10 := (hd { on := 10, ground := Ground.data } (by simp) (by kernel_rfl)).1.1
              have hv7 := (hd { on := 7, ground := Ground.guard } (by simp) (by kernel_rfl)).1.1
              have hc := hS.1.at (i := 1) rfl
              refine .inl ⟨(by simp only [hv7]; rfl), FreeUpon.pure (.slice (some ad) m b) ?_ ⟨rfl, rfl⟩ hS⟩
              try simp only [hv10, hv7]
              clear hS hd
              go_simp
            · intro y fp0 hS hd
              try simp only [Act.put, List.setIfInBounds_toArray, List.set_cons_zero, List.set_cons_succ]
              have hv7 := (hd { on := 7, ground := Ground.guard } (by simp) (by kernel_rfl)).1.1
              refine .inl ⟨(by simp only [hv7]; rfl), FreeUpon.pure (.int .i64 j) ?_ ⟨rfl, rfl⟩ hS⟩
              try simp only [hv7]
              clear hS hd
              go_simp
            · intro y fp0 hS hd
              try simp only [Act.put, List.setIfInBounds_toArray, List.set_cons_zero, List.set_cons_succ]
              have hv12 := (hd { on := 12, ground := Ground.data } (by simp) (by kernel_rfl)).1.1
              have hv7 := (hd { on := 7, ground := Ground.guard } (by simp) (by kernel_rfl)).1.1
              refine .inl ⟨(by simp only [hv7]; rfl), FreeUpon.pure (.int .i64 q) ?_ ⟨rfl, rfl⟩ hS⟩
              try simp only [hv12, hv7]
              clear hS hd
              go_simp
            · intro y fp0 hS hd
              try simp only [Act.put, List.setIfInBounds_toArray, List.set_cons_zero, List.set_cons_succ]
              have hv11 := (hd { on := 11, ground := Ground.data } (by simp) (by kernel_rfl)).1.1
              have hv13 := (hd { on := 13, ground := Ground.data } (by simp) (by kernel_rfl)).1.1
              have hv7 := (hd { on := 7, ground := Ground.guard } (by simp) (by kernel_rfl)).1.1
              refine .inl ⟨(by simp only [hv7]; rfl), FreeUpon.pure (.pointer (some (ad.add (q * 6)))) ?_ ⟨rfl, rfl⟩ hS⟩
              try simp only [hv11, hv13, hv7]
              clear hS hd
              go_simp
            · intro y fp0 hS hd
              try simp only [Act.put, List.setIfInBounds_toArray, List.set_cons_zero, List.set_cons_succ]
              have hv14 := (hd { on := 14, ground := Ground.data } (by simp) (by kernel_rfl)).1.1
              have hv7 := (hd { on := 7, ground := Ground.guard } (by simp) (by kernel_rfl)).1.1
              refine .inl ⟨(by simp only [hv7]; rfl), FreeUpon.pure (.pointer (some (ad.add (q * 6)))) ?_ ⟨rfl, rfl⟩ hS⟩
              try simp only [hv14, hv7]
              clear hS hd
              go_simp
            · intro y fp0 hS hd
              try simp only [Act.put, List.setIfInBounds_toArray, List.set_cons_zero, List.set_cons_succ]
              have hv15 := (hd { on := 15, ground := Ground.data } (by simp) (by kernel_rfl)).1.1
              have hv7 := (hd { on := 7, ground := Ground.guard } (by simp) (by kernel_rfl)).1.1
              have hc := hS.2.2.1
              refine .inl ⟨(by simp only [hv7]; rfl), FreeUpon.pure (.int .i64 x.xGates[q].xGate) ?_ ⟨rfl, rfl⟩ hS⟩
              try simp only [hv15, hv7]
              clear hS hd
              go_simp
            · intro y fp0 hS hd
              try simp only [Act.put, List.setIfInBounds_toArray, List.set_cons_zero, List.set_cons_succ]
              have hv9 := (hd { on := 9, ground := Ground.data } (by simp) (by kernel_rfl)).1.1
              have hv16 := (hd { on := 16, ground := Ground.data } (by simp) (by kernel_rfl)).1.1
              have hv7 := (hd { on := 7, ground := Ground.guard } (by simp) (by kernel_rfl)).1.1
              refine .inl ⟨(by simp only [hv7]; rfl), FreeUpon.pure (.bool false) ?_ ⟨rfl, rfl⟩ hS⟩
              try simp only [hv9, hv16, hv7]
              clear hS hd
              go_simp
            · intro y fp0 hS hd
              try simp only [Act.put, List.setIfInBounds_toArray, List.set_cons_zero, List.set_cons_succ]
              have hv7 := (hd { on := 7, ground := Ground.data } (by simp) (by kernel_rfl)).1.1
              have hv17 := (hd { on := 17, ground := Ground.data } (by simp) (by kernel_rfl)).1.1
              have hv4 := (hd { on := 4, ground := Ground.guard } (by simp) (by kernel_rfl)).1.1
              refine .inl ⟨(by simp only [hv4]; rfl), FreeUpon.pure (.bool false) ?_ ⟨rfl, rfl⟩ hS⟩
              try simp only [hv7, hv17, hv4]
              clear hS hd
              go_simp
            · intro y fp0 hS hd
              try simp only [Act.put, List.setIfInBounds_toArray, List.set_cons_zero, List.set_cons_succ]
              have hv4 := (hd { on := 4, ground := Ground.data } (by simp) (by kernel_rfl)).1.1
              have hv18 := (hd { on := 18, ground := Ground.data } (by simp) (by kernel_rfl)).1.1
              refine .inl ⟨rfl, FreeUpon.pure (.bool false) ?_ ⟨rfl, rfl⟩ hS⟩
              try simp only [hv4, hv18]
              clear hS hd
              go_simp
            · intro y fp0 hS hd
              try simp only [Act.put, List.setIfInBounds_toArray, List.set_cons_zero, List.set_cons_succ]
              have hv19 := (hd { on := 19, ground := Ground.data } (by simp) (by kernel_rfl)).1.1
              refine .inl ⟨rfl, FreeUpon.pure (.bool false) ?_ ⟨rfl, rfl⟩ hS⟩
              try simp only [hv19]
              clear hS hd
              go_simp
            · intro y fp0 hS hd
              try simp only [Act.put, List.setIfInBounds_toArray, List.set_cons_zero, List.set_cons_succ]
              have hv20 := (hd { on := 20, ground := Ground.guard } (by simp) (by kernel_rfl)).1.1
              have hc := hS.1.at (i := 0) rfl; have hc' := hS.1.at (i := 1) rfl
              refine .inl ⟨(by simp only [hv20]; rfl), FreeUpon.pure (.agg #[.slice A n a, .slice (some ad) m b]) ?_ ⟨rfl, rfl⟩ hS⟩
              try simp only [hv20]
              clear hS hd
              go_simp
            · intro y fp0 hS hd
              try simp only [Act.put, List.setIfInBounds_toArray, List.set_cons_zero, List.set_cons_succ]
              have hv20 := (hd { on := 20, ground := Ground.guard } (by simp) (by kernel_rfl)).1.1
              refine .inl ⟨(by simp only [hv20]; rfl), FreeUpon.pure (.int .i64 j) ?_ ⟨rfl, rfl⟩ hS⟩
              try simp only [hv20]
              clear hS hd
              go_simp
          · intro vals fp y hS hb hf
            have Hf := Lib.hid hf
            clear hf
            have e0 : vals 0 = .pointer (some ⟨kb, 0, none⟩) := (Hf.out.1 0 (by omega) rfl).1.1
            have e1 : vals 1 = .int .i64 x.xGates[j].xGate := (Hf.out.1 1 (by omega) rfl).1.1
            have e2 : vals 2 = .bool true := (Hf.out.1 2 (by omega) rfl).1.1
            have e3 : vals 3 = .bool false := (Hf.out.1 3 (by omega) rfl).1.1
            have e4 : vals 4 = .bool false := (Hf.out.1 4 (by omega) rfl).1.1
            have e5 : vals 5 = .int .i64 j := (Hf.out.1 5 (by omega) rfl).1.1
            have e6 : vals 6 = .bool true := (Hf.out.1 6 (by omega) rfl).1.1
            have e7 : vals 7 = .bool true := (Hf.out.1 7 (by omega) rfl).1.1
            have e8 : vals 8 = .pointer (some ⟨kb, 0, none⟩) := (Hf.out.1 8 (by omega) rfl).1.1
            have e9 : vals 9 = .int .i64 x.xGates[j].xGate := (Hf.out.1 9 (by omega) rfl).1.1
            have e10 : vals 10 = .pointer (some ⟨w.heap.size, 1, none⟩) := (Hf.out.1 10 (by omega) rfl).1.1
            have e11 : vals 11 = .slice (some ad) m b := (Hf.out.1 11 (by omega) rfl).1.1
            have e12 : vals 12 = .int .i64 j := (Hf.out.1 12 (by omega) rfl).1.1
            have e13 : vals 13 = .int .i64 q := (Hf.out.1 13 (by omega) rfl).1.1
            have e14 : vals 14 = .pointer (some (ad.add (q * 6))) := (Hf.out.1 14 (by omega) rfl).1.1
            have e15 : vals 15 = .pointer (some (ad.add (q * 6))) := (Hf.out.1 15 (by omega) rfl).1.1
            have e16 : vals 16 = .int .i64 x.xGates[q].xGate := (Hf.out.1 16 (by omega) rfl).1.1
            have e17 : vals 17 = .bool false := (Hf.out.1 17 (by omega) rfl).1.1
            have e18 : vals 18 = .bool false := (Hf.out.1 18 (by omega) rfl).1.1
            have e19 : vals 19 = .bool false := (Hf.out.1 19 (by omega) rfl).1.1
            have e20 : vals 20 = .bool false := (Hf.out.1 20 (by omega) rfl).1.1
            have e21 : vals 21 = .agg #[.slice A n a, .slice (some ad) m b] := (Hf.out.1 21 (by omega) rfl).1.1
            have e22 : vals 22 = .int .i64 j := (Hf.out.1 22 (by omega) rfl).1.1
            replace K := Lib.hid hS.1
            replace HB := Lib.hid (HB.out.trans (hb.mono HB.out.size))
            clear hS hb Hf d0
            simp only [List.take_succ_cons, List.take_zero, List.drop_succ_cons, List.drop_zero, putAll, Act.put, List.setIfInBounds_toArray, List.set_cons_zero, List.set_cons_succ, e0, e1, e2, e3, e4, e5, e6, e7, e8, e9, e10, e11, e12, e13, e14, e15, e16, e17, e18, e19, e20, e21, e22]
            go_wp2_with fail
            have hzj := Hz.out.2 j _ (List.getElem?_eq_getElem hk)
            refine (aspTalkTo_n _ _ x j _ (H0.out.below HB.out) (RdAspGateS.below H1.out HB.out) hk ⟨by rw [Hn.out]; exact Hz.out.1, hzj.1, hzj.2.1, hzj.2.2⟩).mono ?_
            clear hzj
            rintro e w3 ⟨bl, u0, u1, u2, u3, f0, f1, f2, f3, rfl, hkb, _, o1, o2, o3, _, b3⟩
            have KT := Lib.hid hkb
            have O1 := Lib.hid o1.rd
            have O2 := Lib.hid o2.rd
            have O3 := Lib.hid o3.rd
            replace K := Lib.hid (K.out.keep b3)
            replace HB := Lib.hid (HB.out.trans (b3.mono HB.out.size))
            clear hkb o1 o2 o3 b3 k0 k1 s0
            go_wp2_with fail
            refine (talkFits_r _ _ _ _ _ x.xGates[j] _ KT.out O1.out O2.out O3.out).mono ?_
            rintro e w4 ⟨rfl, b4⟩
            replace K := Lib.hid (K.out.keep b4)
            replace HB := Lib.hid (HB.out.trans (b4.mono HB.out.size))
            clear b4
            rcases hT : talkF x.xGates[j] with _ | _
            · have Hbad := Lib.hid (show bg j x.xGates[j] = false by rw [Hbg'.out, Hgk.out, hT]; rfl)
              go_wp2
              go_ret
              exact ⟨ret_bool (by have hb := allI_bad hk Hbad.out; rw [Hao.out, hb]; simp), HB.out⟩
            have Hgood := Lib.hid (show bg j x.xGates[j] = true by rw [Hbg'.out, Hgk.out, hT, Hp.out, Hc.out]; simp)
            go_wp2
            exact ⟨⟨j + 1, by omega, by go_num, K.out, HB.out, Hu.out.succ hk Hgood.out⟩, by simp [intOf]; omega⟩
        · have Hbad := Lib.hid (show bg j x.xGates[j] = false by rw [Hbg'.out, Hp.out, decide_eq_false hC, decide_eq_false Hj0.out]; simp)
          have hC' : decide (x.xGates[j].xGate ≤ x.xGates[q].xGate) = true := by simp; omega
          go_quiet (first | (go_at_call 103; exact frmShort_q _ _ hA _ _))
          go_wp2
          go_ret
          exact ⟨ret_bool (by have hb := allI_bad hk Hbad.out; rw [Hao.out, hb]; simp), below_dN HB.out _⟩
    · go_wp2
      go_ret
      exact ⟨ret_bool (by have h := Hu.out.done (by rw [Hm.out]; omega); rw [Hao.out, ← Bool.and_assoc, Hwf.out, h, decide_eq_true h2]; rfl), HB.out⟩
theorem implAspOk_r (cs : List Value) (x : DAspBook) (w : World) (h : FAspBook w cs x) (hz : zAspBook x ≤ 1048576) : Calls Try.prog 113 #[.agg cs.toArray] w fun e w' => e = .returned (.bool (aspOk x)) ∧ Below w.heap.size w w' :=
  implAspOk_w cs x w h (by
    unfold zAspBook zL at hz
    refine ⟨by omega, fun j g hg => ?_⟩
    have h1 := szL_mem (z := zAspGate) (List.mem_of_getElem? hg)
    have h2 : zAspGate g = g.xActive.length + g.xAsked.length + g.xOff.length := rfl
    omega)
end Go.Proofs.Ythdjjgbjemaabaa
