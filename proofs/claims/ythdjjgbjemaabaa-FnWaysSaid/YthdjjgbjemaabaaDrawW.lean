/-
  The draws of ways.
-/
import Derived.Test.YthdjjgbjemaabaaDrawK3
import Derived.Test.YthdjjgbjemaabaaWayF
namespace Go.Proofs.Ythdjjgbjemaabaa
open Go.ChangeShapes Go.WideShapes Go.ChangeAt Go.RowKit Go.Maps
set_option linter.unusedVariables false
set_option linter.unusedSimpArgs false

def wayL (x : DPthWay) : List Value := [.int .i64 x.xAddr, .bool x.xOn, .int .i64 x.xErrors, .int .i64 x.xSrtt, .int .i64 x.xVar, .int .i64 x.xRto]
/-- Six cells of a block are stored. -/
theorem Blk.put6 {w : World} {b : Nat} {x : DPthWay} (y : DPthWay) (h : Blk w b (wayL x)) :
    Blk ((((((w.setCell ⟨b, 0, none⟩ (.int .i64 y.xAddr)).setCell ⟨b, 1, none⟩ (.bool y.xOn)).setCell ⟨b, 2, none⟩ (.int .i64 y.xErrors)).setCell ⟨b, 3, none⟩ (.int .i64 y.xSrtt)).setCell ⟨b, 4, none⟩ (.int .i64 y.xVar)).setCell ⟨b, 5, none⟩ (.int .i64 y.xRto)) b (wayL y) :=
  ((((((h.set (i := 0) (by simp [wayL])).set (i := 1) (by simp [wayL])).set (i := 2) (by simp [wayL])).set (i := 3) (by simp [wayL])).set (i := 4) (by simp [wayL])).set (i := 5) (by simp [wayL]))
theorem Fr.set1 {w : World} {b o : Nat} (u : Value) : Fr b (b + 1) w (w.setCell ⟨b, o, none⟩ u) := Fr.setCell _ _ (by simp)
theorem Fr.put6 {w : World} {b : Nat} (u0 u1 u2 u3 u4 u5 : Value) : Fr b (b + 1) w ((((((w.setCell ⟨b, 0, none⟩ u0).setCell ⟨b, 1, none⟩ u1).setCell ⟨b, 2, none⟩ u2).setCell ⟨b, 3, none⟩ u3).setCell ⟨b, 4, none⟩ u4).setCell ⟨b, 5, none⟩ u5) :=
  (((((Fr.set1 u0).trans (Fr.set1 u1)).trans (Fr.set1 u2)).trans (Fr.set1 u3)).trans (Fr.set1 u4)).trans (Fr.set1 u5)
theorem Blk.far6 {w : World} {b b' : Nat} {vs : List Value} (u0 u1 u2 u3 u4 u5 : Value) (h : Blk w b' vs) (hn : b ≠ b') : Blk ((((((w.setCell ⟨b, 0, none⟩ u0).setCell ⟨b, 1, none⟩ u1).setCell ⟨b, 2, none⟩ u2).setCell ⟨b, 3, none⟩ u3).setCell ⟨b, 4, none⟩ u4).setCell ⟨b, 5, none⟩ u5) b' vs :=
  (((((h.far hn).far hn).far hn).far hn).far hn).far hn
set_option maxRecDepth 100000 in
set_option maxHeartbeats 2000000 in
theorem l32Way_any (g p B : Nat) (xs : List UInt8) (w : World) (hr : Rdk B w g xs p) (hp : p + 20 ≤ 1099511627776) (hB : B ≤ w.heap.size) :
    Calls Try.prog 216 #[.pointer (some ⟨g, 0, none⟩)] w fun e w' => ∃ (x : DPthWay) (q : Nat), e = .returned (.agg #[.int .i64 x.xAddr, .bool x.xOn, .int .i64 x.xErrors, .int .i64 x.xSrtt, .int .i64 x.xVar, .int .i64 x.xRto]) ∧ q ≤ p + 14 ∧ Rdk B w' g xs q ∧ Fr g (g + 1) w w' := by
  have hg := hr.lt
  have K := Lib.hid (Blk.new (w := w) (b := w.heap.size) #[.int .i64 0, .bool false, .int .i64 0, .int .i64 0, .int .i64 0, .int .i64 0] 24 rfl)
  go_enter Try.func216, Try.ntmps216
  go_wp2_with fail
  refine (pick_k g p B 9 xs _ (hr.alloc _) (by omega) (by omega)).mono ?_
  rintro e w1 ⟨m, q1, hm, rfl, hq1, hr1, hf1, hs1⟩
  replace K := Lib.hid (K.out.fr1 hf1 (by omega))
  have HF := Lib.hid (((Fr.refl g (g + 1) w).alloc _).trans hf1)
  have HR := Lib.hid hr1
  have HS := Lib.hid (show w.heap.size < w1.heap.size from K.out.lt)
  clear hr hr1 hf1 hs1
  go_wp2_with fail
  refine (specOpen_yes m _ (inB_iff.2 ⟨by omega, by omega⟩)).mono ?_
  rintro e w2 ⟨rfl, b2⟩
  replace K := Lib.hid ((K.out.keep b2).alloc (.cells #[.int .i64 m, .bool true, .int .i64 0, .int .i64 0, .int .i64 0, .int .i64 3] 24))
  have C := Lib.hid (Blk.new (w := w2) (b := w2.heap.size) #[.int .i64 m, .bool true, .int .i64 0, .int .i64 0, .int .i64 0, .int .i64 3] 24 rfl)
  replace HF := Lib.hid ((HF.out.trans (Fr.of_below b2)).alloc (.cells #[.int .i64 m, .bool true, .int .i64 0, .int .i64 0, .int .i64 0, .int .i64 3] 24))
  replace HR := Lib.hid ((HR.out.fr (Fr.of_below (lo := w1.heap.size) (hi := w1.heap.size) b2) (by have := HS.out; omega)).alloc (.cells #[.int .i64 m, .bool true, .int .i64 0, .int .i64 0, .int .i64 0, .int .i64 3] 24))
  replace HS := Lib.hid (show w.heap.size < w2.heap.size by have := HS.out; have := b2.size; omega)
  clear b2
  go_wp2_with fail
  refine (pick_k g q1 B 6 xs _ HR.out (by omega) (by omega)).mono ?_
  rintro e w3 ⟨n, q3, hn, rfl, hq3, hr3, hf3, hs3⟩
  replace K := Lib.hid (K.out.fr1 hf3 (by omega))
  replace C := Lib.hid (C.out.fr1 hf3 (by have := HS.out; omega))
  replace HF := Lib.hid (HF.out.trans hf3)
  replace HR := Lib.hid hr3
  clear hr3 hf3 hs3
  generalize w2.heap.size = b at *
  go_wp2
  go_loopw [4] (fun nv w4 => ∃ (i : Int) (q : Nat) (x : DPthWay), nv = .int .i64 i ∧ 0 ≤ i ∧ i ≤ 5 ∧ (q : Int) + 2 * i ≤ p + 12 ∧ Blk w4 w.heap.size (wayL zWay) ∧ Blk w4 b (wayL x) ∧ Rdk B w4 g xs q ∧ Fr g (g + 1) w w4) (fun nv _ => (intOf nv).toNat)
  case atStart => exact ⟨n, q3, ⟨m, true, 0, 0, 0, 3⟩, rfl, by omega, by omega, by omega, K.out, C.out, HR.out, HF.out⟩
  case round =>
    clear K C HR HF
    obtain ⟨i, q, x, rfl, hi0, hi5, hq, hk, hc, hr4, hf4⟩ := hrel
    have K := Lib.hid hk
    have C := Lib.hid hc
    have HR := Lib.hid hr4
    have HF := Lib.hid hf4
    clear hk hc hr4 hf4
    rcases Int.lt_or_le 0 i with hlt | hge
    · go_wp2_with fail
      refine (pick_k g q B 2 xs _ HR.out (by omega) (by omega)).mono ?_
      rintro e w5 ⟨y, q5, hy, rfl, hq5, hr5, hf5, hs5⟩
      replace K := Lib.hid (K.out.fr1 hf5 (by omega))
      replace C := Lib.hid (C.out.fr1 hf5 (by have := HS.out; omega))
      replace HF := Lib.hid (HF.out.trans hf5)
      replace HR := Lib.hid hr5
      clear hr5 hf5 hs5
      by_cases hy0 : y = 0
      · subst hy0
        go_wp2_with fail
        refine wp_region_freeS 5 g (g + 1) (fun sel y => ∃ q, q ≤ q5 + (if sel 2 = true then 1 else 0) ∧ Rdk B y g xs q ∧ B ≤ y.heap.size ∧ Blk y b (wayL x)) (fun _ i v y f => match i with | 0 => v = .agg #[.int .i64 x.xAddr, .bool x.xOn, .int .i64 x.xErrors, .int .i64 x.xSrtt, .int .i64 x.xVar, .int .i64 x.xRto] | 1 => v = .pointer (some ⟨g, 0, none⟩) | 2 => ∃ k : Int, 0 ≤ k ∧ k < 20 ∧ v = .int .i64 k | 3 => ∃ k : Int, v = .int .i64 k | 4 => ∃ z : DPthWay, v = .agg #[.int .i64 z.xAddr, .bool z.xOn, .int .i64 z.xErrors, .int .i64 z.xSrtt, .int .i64 z.xVar, .int .i64 z.xRto] | _ => False) (fun i => i) (by kernel_rfl) (by kernel_rfl) ?_ (fun _ _ _ _ _ _ _ _ _ h => h) ⟨q5, by omega, HR.out.drewN 1, by show B ≤ w5.heap.size; have := HF.out.size; omega, C.out.drew⟩ ?_ ?_
        · intro _ i v y y' f h hf
          match i, h with
          | 0, h => exact h
          | 1, h => exact h
          | 2, h => exact h
          | 3, h => exact h
          | 4, h => exact h
        · intro vals
          simp only [List.take_succ_cons, List.take_zero, StepsS]
          refine ⟨?_, ?_, ?_, ?_, ?_, trivial⟩
          · intro y fp0 sel hsel hS hd
            try simp only [Act.put, List.setIfInBounds_toArray, List.set_cons_zero, List.set_cons_succ]
            obtain ⟨q, hq, hrd, hBy, hC⟩ := hS
            have pc0 := hC.at (i := 0) rfl
            have pc1 := hC.at (i := 1) rfl
            have pc2 := hC.at (i := 2) rfl
            have pc3 := hC.at (i := 3) rfl
            have pc4 := hC.at (i := 4) rfl
            have pc5 := hC.at (i := 5) rfl
            refine FreeUponS.pure (.agg #[.int .i64 x.xAddr, .bool x.xOn, .int .i64 x.xErrors, .int .i64 x.xSrtt, .int .i64 x.xVar, .int .i64 x.xRto]) ?_ rfl ⟨q, by simpa using hq, hrd, hBy, hC⟩
            clear hsel hd hq hrd hC
            go_simp
          · intro y fp0 sel hsel hS hd
            try simp only [Act.put, List.setIfInBounds_toArray, List.set_cons_zero, List.set_cons_succ]
            obtain ⟨q, hq, hrd, hBy, hC⟩ := hS
            refine FreeUponS.pure (.pointer (some ⟨g, 0, none⟩)) ?_ rfl ⟨q, by simpa using hq, hrd, hBy, hC⟩
            clear hsel hd hq hrd hC
            go_simp
          · intro y fp0 sel hsel hS hd
            try simp only [Act.put, List.setIfInBounds_toArray, List.set_cons_zero, List.set_cons_succ]
            obtain ⟨q, hq, hrd, hBy, hC⟩ := hS
            have hv : vals 1 = .pointer (some ⟨g, 0, none⟩) := (hd { on := 1, ground := Ground.data } (by simp) (by kernel_rfl)).1
            have hqb : q ≤ 1099511627776 := by (repeat' split at hq) <;> omega
            refine FreeUponS.call (g := 96) (args := #[.pointer (some ⟨g, 0, none⟩), .int .i64 20]) ?_ ((pick_k g q B 20 xs y hrd hqb (by omega)).mono fun e y' ⟨z, q', hz, he, hq', hr', hf', hs'⟩ => ⟨.int .i64 z, [], he, ⟨z, hz.1, hz.2, rfl⟩, Nw.nil _ _, hf', q', by simp [hsel] at hq ⊢; omega, hr', by omega, hC.fr1 hf' (by have := HS.out; omega)⟩)
            simp only [hv]
            go_simp
          · intro y fp0 sel hsel hS hd
            try simp only [Act.put, List.setIfInBounds_toArray, List.set_cons_zero, List.set_cons_succ]
            obtain ⟨q, hq, hrd, hBy, hC⟩ := hS
            obtain ⟨k, hk0, hk1, hv⟩ := (hd { on := 2, ground := Ground.data } (by simp) (by kernel_rfl)).1
            try simp only at hv
            refine FreeUponS.pure (.int .i64 (k - 1)) ?_ ⟨_, rfl⟩ ⟨q, by simpa using hq, hrd, hBy, hC⟩
            simp only [hv]
            clear hsel hd hq hrd hC
            go_simp
            exact i64_in ⟨by omega, by omega⟩
          · intro y fp0 sel hsel hS hd
            try simp only [Act.put, List.setIfInBounds_toArray, List.set_cons_zero, List.set_cons_succ]
            obtain ⟨q, hq, hrd, hBy, hC⟩ := hS
            have hv : vals 0 = .agg #[.int .i64 x.xAddr, .bool x.xOn, .int .i64 x.xErrors, .int .i64 x.xSrtt, .int .i64 x.xVar, .int .i64 x.xRto] := (hd { on := 0, ground := Ground.data } (by simp) (by kernel_rfl)).1
            obtain ⟨k, hk⟩ := (hd { on := 3, ground := Ground.data } (by simp) (by kernel_rfl)).1
            try simp only at hk
            refine FreeUponS.call (g := 18) (args := #[.agg #[.int .i64 x.xAddr, .bool x.xOn, .int .i64 x.xErrors, .int .i64 x.xSrtt, .int .i64 x.xVar, .int .i64 x.xRto], .int .i64 k]) ?_ (((heard_both x k).1 y).mono fun e y' ⟨he, hb⟩ => ⟨_, [], he, ⟨_, rfl⟩, Nw.nil _ _, Fr.of_below hb, q, by simpa using hq, hrd.fr (Fr.of_below (lo := B) (hi := B) hb) (Nat.le_refl _), by have := hb.size; omega, hC.keep hb⟩)
            simp only [hv, hk]
            go_simp
        · intro vals fp w6 hS hb hf
          obtain ⟨x', e4⟩ : ∃ z : DPthWay, vals 4 = .agg #[.int .i64 z.xAddr, .bool z.xOn, .int .i64 z.xErrors, .int .i64 z.xSrtt, .int .i64 z.xVar, .int .i64 z.xRto] := (hf.1 4 (by omega) rfl).1
          obtain ⟨q6, hq6, hr6, _, hc6⟩ := hS
          replace K := Lib.hid (K.out.fr1 hb (by omega))
          replace C := Lib.hid hc6
          replace HR := Lib.hid hr6
          replace HF := Lib.hid (HF.out.trans hb)
          clear hf hb hr6 hc6
          have hq7 : q6 ≤ q5 + 1 := by simpa using hq6
          clear hq6
          simp only [List.take_succ_cons, List.take_zero, List.drop_succ_cons, List.drop_zero, putAll, Act.put, List.setIfInBounds_toArray, List.set_cons_zero, List.set_cons_succ, e4]
          clear e4
          have z0 := C.out.frozen
          have k := C.out
          have pc0 := k.at (i := 0) rfl
          have pc1 := k.at (i := 1) rfl
          have pc2 := k.at (i := 2) rfl
          have pc3 := k.at (i := 3) rfl
          have pc4 := k.at (i := 4) rfl
          have pc5 := k.at (i := 5) rfl
          clear k
          go_wp2
          exact ⟨⟨i - 1, q6, x', rfl, by omega, by omega, by omega, Blk.far6 _ _ _ _ _ _ K.out (by have := HS.out; omega), Blk.put6 x' C.out, HR.out.fr (Fr.put6 _ _ _ _ _ _) (by have := HS.out; omega), HF.out.later (Fr.put6 _ _ _ _ _ _) (by have := HS.out; omega)⟩, by simp [intOf]; omega⟩
      · have hy1 : (y == 0) = false := by simp [hy0]
        have k := C.out
        have pc0 := k.at (i := 0) rfl
        have pc1 := k.at (i := 1) rfl
        have pc2 := k.at (i := 2) rfl
        have pc3 := k.at (i := 3) rfl
        have pc4 := k.at (i := 4) rfl
        have pc5 := k.at (i := 5) rfl
        clear k
        go_wp2_with fail
        refine ((lost_both x).1 _).mono ?_
        rintro e w6 ⟨rfl, b6⟩
        clear pc0 pc1 pc2 pc3 pc4 pc5
        replace K := Lib.hid (K.out.keep b6)
        replace C := Lib.hid (C.out.keep b6)
        replace HR := Lib.hid (HR.out.fr (Fr.of_below (lo := B) (hi := B) (b6.mono (by have := HF.out.size; omega))) (Nat.le_refl _))
        replace HF := Lib.hid (HF.out.trans (Fr.of_below b6))
        clear b6
        have z0 := C.out.frozen
        have k := C.out
        have pc0 := k.at (i := 0) rfl
        have pc1 := k.at (i := 1) rfl
        have pc2 := k.at (i := 2) rfl
        have pc3 := k.at (i := 3) rfl
        have pc4 := k.at (i := 4) rfl
        have pc5 := k.at (i := 5) rfl
        clear k
        generalize lostF x = x' at *
        go_wp2
        exact ⟨⟨i - 1, q5, x', rfl, by omega, by omega, by omega, Blk.far6 _ _ _ _ _ _ K.out (by have := HS.out; omega), Blk.put6 x' C.out, HR.out.fr (Fr.put6 _ _ _ _ _ _) (by have := HS.out; omega), HF.out.later (Fr.put6 _ _ _ _ _ _) (by have := HS.out; omega)⟩, by simp [intOf]; omega⟩
    · have k := C.out
      have pc0 := k.at (i := 0) rfl
      have pc1 := k.at (i := 1) rfl
      have pc2 := k.at (i := 2) rfl
      have pc3 := k.at (i := 3) rfl
      have pc4 := k.at (i := 4) rfl
      have pc5 := k.at (i := 5) rfl
      have z0 := K.out.frozen
      have k := K.out
      have rc0 := k.at (i := 0) rfl
      have rc1 := k.at (i := 1) rfl
      have rc2 := k.at (i := 2) rfl
      have rc3 := k.at (i := 3) rfl
      have rc4 := k.at (i := 4) rfl
      have rc5 := k.at (i := 5) rfl
      clear k
      go_wp2
      have rr := Blk.put6 x K.out
      have rc0 := rr.at (i := 0) rfl
      have rc1 := rr.at (i := 1) rfl
      have rc2 := rr.at (i := 2) rfl
      have rc3 := rr.at (i := 3) rfl
      have rc4 := rr.at (i := 4) rfl
      have rc5 := rr.at (i := 5) rfl
      clear rr z0
      have HR' := Lib.hid (HR.out.fr (Fr.put6 (b := w.heap.size) (.int .i64 x.xAddr) (.bool x.xOn) (.int .i64 x.xErrors) (.int .i64 x.xSrtt) (.int .i64 x.xVar) (.int .i64 x.xRto)) (by omega))
      have HF' := Lib.hid (HF.out.later (Fr.put6 (b := w.heap.size) (.int .i64 x.xAddr) (.bool x.xOn) (.int .i64 x.xErrors) (.int .i64 x.xSrtt) (.int .i64 x.xVar) (.int .i64 x.xRto)) (Nat.le_refl _))
      generalize World.setCell (World.setCell _ _ _) _ _ = W at *
      refine bodyPost_ret (v := .agg #[.int .i64 x.xAddr, .bool x.xOn, .int .i64 x.xErrors, .int .i64 x.xSrtt, .int .i64 x.xVar, .int .i64 x.xRto]) (by simp [results, Try.results216, go_sem, rc0, rc1, rc2, rc3, rc4, rc5]) rfl ?_
      exact ⟨x, q, rfl, by omega, HR'.out, HF'.out⟩
end Go.Proofs.Ythdjjgbjemaabaa
