/-
  The draws of spoilt ways, and of any way. (Written by wip/tools/gendraww2.py.)
-/
import Derived.Test.YthdjjgbjemaabaaDrawW
namespace Go.Proofs.Ythdjjgbjemaabaa
open Go.ChangeShapes Go.WideShapes Go.ChangeAt Go.RowKit Go.Maps
set_option linter.unusedVariables false
set_option linter.unusedSimpArgs false

set_option maxRecDepth 100000 in
set_option maxHeartbeats 4000000 in
theorem l32SpoilWay_any (g p B : Nat) (x : DPthWay) (xs : List UInt8) (w : World) (hr : Rdk B w g xs p) (hp : p + 20 ≤ 1099511627776) (hB : B ≤ w.heap.size) :
    Calls Try.prog 217 #[.pointer (some ⟨g, 0, none⟩), .agg #[.int .i64 x.xAddr, .bool x.xOn, .int .i64 x.xErrors, .int .i64 x.xSrtt, .int .i64 x.xVar, .int .i64 x.xRto]] w fun e w' => ∃ (x' : DPthWay) (q : Nat), e = .returned (.agg #[.int .i64 x'.xAddr, .bool x'.xOn, .int .i64 x'.xErrors, .int .i64 x'.xSrtt, .int .i64 x'.xVar, .int .i64 x'.xRto]) ∧ q ≤ p + 2 ∧ Rdk B w' g xs q ∧ Fr g (g + 1) w w' := by
  have hg := hr.lt
  have C := Lib.hid ((Blk.new (w := w) (b := w.heap.size) (wayL x).toArray 24 rfl).alloc (.cells #[.int .i64 0, .bool false, .int .i64 0, .int .i64 0, .int .i64 0, .int .i64 0] 24))
  have K := Lib.hid (Blk.new (w := w.alloc (.cells (wayL x).toArray 24)) (b := w.heap.size + 1) #[.int .i64 0, .bool false, .int .i64 0, .int .i64 0, .int .i64 0, .int .i64 0] 24 (by simp))
  have HF := Lib.hid (((Fr.refl g (g + 1) w).alloc (.cells (wayL x).toArray 24)).alloc (.cells #[.int .i64 0, .bool false, .int .i64 0, .int .i64 0, .int .i64 0, .int .i64 0] 24))
  have HR := Lib.hid ((hr.alloc (.cells (wayL x).toArray 24)).alloc (.cells #[.int .i64 0, .bool false, .int .i64 0, .int .i64 0, .int .i64 0, .int .i64 0] 24))
  clear hr
  go_enter Try.func217, Try.ntmps217
  go_wp2_with fail
  refine (pick_k g p B 6 xs _ HR.out (by omega) (by omega)).mono ?_
  rintro e w1 ⟨y, q1, hy, rfl, hq1, hr1, hf1, hs1⟩
  replace C := Lib.hid (C.out.fr1 hf1 (by omega))
  replace K := Lib.hid (K.out.fr1 hf1 (by omega))
  replace HR := Lib.hid hr1
  replace HF := Lib.hid (HF.out.trans hf1)
  have HS := Lib.hid (show w.heap.size + 1 < w1.heap.size from K.out.lt)
  clear hr1 hf1 hs1
  have hc : y = 0 ∨ y = 1 ∨ y = 2 ∨ y = 3 ∨ y = 4 ∨ y = 5 := by omega
  clear hy
  rcases hc with rfl | rfl | rfl | rfl | rfl | rfl
  · go_wp2_with fail
    refine (pick_k g q1 B 3 xs _ (HR.out.alloc _) (by omega) (by omega)).mono ?_
    rintro e w5 ⟨z, q5, hz5, rfl, hq5, hr5, hf5, hs5⟩
    obtain ⟨m, rfl⟩ := Int.eq_ofNat_of_zero_le hz5.1
    have hm : m < 3 := by omega
    have hct := tab_at [(-1), 65535, 65536] _ rfl hf5 (.inr (by have := HS.out; omega)) hm
    replace C := Lib.hid ((C.out.alloc (.cells #[.int .i64 (-1), .int .i64 (65535), .int .i64 (65536)] 3)).fr1 hf5 (by omega))
    replace K := Lib.hid ((K.out.alloc (.cells #[.int .i64 (-1), .int .i64 (65535), .int .i64 (65536)] 3)).fr1 hf5 (by omega))
    replace HF := Lib.hid ((HF.out.alloc (.cells #[.int .i64 (-1), .int .i64 (65535), .int .i64 (65536)] 3)).trans hf5)
    replace HR := Lib.hid hr5
    clear hr5 hf5 hs5
    generalize tv [(-1), 65535, 65536] m = val at *
    have hmI : (m : Int) < 3 := by omega
    have z0 := C.out.frozen
    have z1 := K.out.frozen
    have k := C.out
    have pc0 := k.at (i := 0) rfl
    have pc1 := k.at (i := 1) rfl
    have pc2 := k.at (i := 2) rfl
    have pc3 := k.at (i := 3) rfl
    have pc4 := k.at (i := 4) rfl
    have pc5 := k.at (i := 5) rfl
    clear k
    have k := K.out
    have kc0 := k.at (i := 0) rfl
    have kc1 := k.at (i := 1) rfl
    have kc2 := k.at (i := 2) rfl
    have kc3 := k.at (i := 3) rfl
    have kc4 := k.at (i := 4) rfl
    have kc5 := k.at (i := 5) rfl
    clear k
    go_wp2
    clear z0 z1 pc0 kc0 pc1 kc1 pc2 kc2 pc3 kc3 pc4 kc4 pc5 kc5
    have rr := Blk.put6 (x := zWay) (⟨val, x.xOn, x.xErrors, x.xSrtt, x.xVar, x.xRto⟩ : DPthWay) (Blk.far (b' := w.heap.size) (o := 0) (v := .int .i64 val) K.out (show w.heap.size ≠ w.heap.size + 1 by omega))
    have k := rr
    have rc0 := k.at (i := 0) rfl
    have rc1 := k.at (i := 1) rfl
    have rc2 := k.at (i := 2) rfl
    have rc3 := k.at (i := 3) rfl
    have rc4 := k.at (i := 4) rfl
    have rc5 := k.at (i := 5) rfl
    clear k
    clear rr
    have HR' := Lib.hid ((HR.out.fr (Fr.set1 (b := w.heap.size) (o := 0) (.int .i64 val)) hB).fr (Fr.put6 (b := w.heap.size + 1) (.int .i64 ((⟨val, x.xOn, x.xErrors, x.xSrtt, x.xVar, x.xRto⟩ : DPthWay)).xAddr) (.bool ((⟨val, x.xOn, x.xErrors, x.xSrtt, x.xVar, x.xRto⟩ : DPthWay)).xOn) (.int .i64 ((⟨val, x.xOn, x.xErrors, x.xSrtt, x.xVar, x.xRto⟩ : DPthWay)).xErrors) (.int .i64 ((⟨val, x.xOn, x.xErrors, x.xSrtt, x.xVar, x.xRto⟩ : DPthWay)).xSrtt) (.int .i64 ((⟨val, x.xOn, x.xErrors, x.xSrtt, x.xVar, x.xRto⟩ : DPthWay)).xVar) (.int .i64 ((⟨val, x.xOn, x.xErrors, x.xSrtt, x.xVar, x.xRto⟩ : DPthWay)).xRto)) (by omega))
    have HF' := Lib.hid ((HF.out.later (Fr.set1 (b := w.heap.size) (o := 0) (.int .i64 val)) (Nat.le_refl _)).later (Fr.put6 (b := w.heap.size + 1) (.int .i64 ((⟨val, x.xOn, x.xErrors, x.xSrtt, x.xVar, x.xRto⟩ : DPthWay)).xAddr) (.bool ((⟨val, x.xOn, x.xErrors, x.xSrtt, x.xVar, x.xRto⟩ : DPthWay)).xOn) (.int .i64 ((⟨val, x.xOn, x.xErrors, x.xSrtt, x.xVar, x.xRto⟩ : DPthWay)).xErrors) (.int .i64 ((⟨val, x.xOn, x.xErrors, x.xSrtt, x.xVar, x.xRto⟩ : DPthWay)).xSrtt) (.int .i64 ((⟨val, x.xOn, x.xErrors, x.xSrtt, x.xVar, x.xRto⟩ : DPthWay)).xVar) (.int .i64 ((⟨val, x.xOn, x.xErrors, x.xSrtt, x.xVar, x.xRto⟩ : DPthWay)).xRto)) (by omega))
    generalize World.setCell (World.setCell (World.setCell (World.setCell (World.setCell _ _ _) _ _) _ _) _ _) _ _ = W at *
    refine bodyPost_ret (v := .agg #[.int .i64 (⟨val, x.xOn, x.xErrors, x.xSrtt, x.xVar, x.xRto⟩ : DPthWay).xAddr, .bool (⟨val, x.xOn, x.xErrors, x.xSrtt, x.xVar, x.xRto⟩ : DPthWay).xOn, .int .i64 (⟨val, x.xOn, x.xErrors, x.xSrtt, x.xVar, x.xRto⟩ : DPthWay).xErrors, .int .i64 (⟨val, x.xOn, x.xErrors, x.xSrtt, x.xVar, x.xRto⟩ : DPthWay).xSrtt, .int .i64 (⟨val, x.xOn, x.xErrors, x.xSrtt, x.xVar, x.xRto⟩ : DPthWay).xVar, .int .i64 (⟨val, x.xOn, x.xErrors, x.xSrtt, x.xVar, x.xRto⟩ : DPthWay).xRto]) (by simp [results, Try.results217, go_sem, rc0, rc1, rc2, rc3, rc4, rc5]) rfl ?_
    exact ⟨(⟨val, x.xOn, x.xErrors, x.xSrtt, x.xVar, x.xRto⟩ : DPthWay), q5, rfl, by omega, HR'.out, HF'.out⟩
  · have z0 := C.out.frozen
    have z1 := K.out.frozen
    have k := C.out
    have pc0 := k.at (i := 0) rfl
    have pc1 := k.at (i := 1) rfl
    have pc2 := k.at (i := 2) rfl
    have pc3 := k.at (i := 3) rfl
    have pc4 := k.at (i := 4) rfl
    have pc5 := k.at (i := 5) rfl
    clear k
    have k := K.out
    have kc0 := k.at (i := 0) rfl
    have kc1 := k.at (i := 1) rfl
    have kc2 := k.at (i := 2) rfl
    have kc3 := k.at (i := 3) rfl
    have kc4 := k.at (i := 4) rfl
    have kc5 := k.at (i := 5) rfl
    clear k
    go_wp2
    clear z0 z1 pc0 kc0 pc1 kc1 pc2 kc2 pc3 kc3 pc4 kc4 pc5 kc5
    have rr := Blk.put6 (x := zWay) (⟨x.xAddr, !x.xOn, x.xErrors, x.xSrtt, x.xVar, x.xRto⟩ : DPthWay) (Blk.far (b' := w.heap.size) (o := 1) (v := .bool (!x.xOn)) K.out (show w.heap.size ≠ w.heap.size + 1 by omega))
    have k := rr
    have rc0 := k.at (i := 0) rfl
    have rc1 := k.at (i := 1) rfl
    have rc2 := k.at (i := 2) rfl
    have rc3 := k.at (i := 3) rfl
    have rc4 := k.at (i := 4) rfl
    have rc5 := k.at (i := 5) rfl
    clear k
    clear rr
    have HR' := Lib.hid ((HR.out.fr (Fr.set1 (b := w.heap.size) (o := 1) (.bool (!x.xOn))) hB).fr (Fr.put6 (b := w.heap.size + 1) (.int .i64 ((⟨x.xAddr, !x.xOn, x.xErrors, x.xSrtt, x.xVar, x.xRto⟩ : DPthWay)).xAddr) (.bool ((⟨x.xAddr, !x.xOn, x.xErrors, x.xSrtt, x.xVar, x.xRto⟩ : DPthWay)).xOn) (.int .i64 ((⟨x.xAddr, !x.xOn, x.xErrors, x.xSrtt, x.xVar, x.xRto⟩ : DPthWay)).xErrors) (.int .i64 ((⟨x.xAddr, !x.xOn, x.xErrors, x.xSrtt, x.xVar, x.xRto⟩ : DPthWay)).xSrtt) (.int .i64 ((⟨x.xAddr, !x.xOn, x.xErrors, x.xSrtt, x.xVar, x.xRto⟩ : DPthWay)).xVar) (.int .i64 ((⟨x.xAddr, !x.xOn, x.xErrors, x.xSrtt, x.xVar, x.xRto⟩ : DPthWay)).xRto)) (by omega))
    have HF' := Lib.hid ((HF.out.later (Fr.set1 (b := w.heap.size) (o := 1) (.bool (!x.xOn))) (Nat.le_refl _)).later (Fr.put6 (b := w.heap.size + 1) (.int .i64 ((⟨x.xAddr, !x.xOn, x.xErrors, x.xSrtt, x.xVar, x.xRto⟩ : DPthWay)).xAddr) (.bool ((⟨x.xAddr, !x.xOn, x.xErrors, x.xSrtt, x.xVar, x.xRto⟩ : DPthWay)).xOn) (.int .i64 ((⟨x.xAddr, !x.xOn, x.xErrors, x.xSrtt, x.xVar, x.xRto⟩ : DPthWay)).xErrors) (.int .i64 ((⟨x.xAddr, !x.xOn, x.xErrors, x.xSrtt, x.xVar, x.xRto⟩ : DPthWay)).xSrtt) (.int .i64 ((⟨x.xAddr, !x.xOn, x.xErrors, x.xSrtt, x.xVar, x.xRto⟩ : DPthWay)).xVar) (.int .i64 ((⟨x.xAddr, !x.xOn, x.xErrors, x.xSrtt, x.xVar, x.xRto⟩ : DPthWay)).xRto)) (by omega))
    generalize World.setCell (World.setCell (World.setCell (World.setCell (World.setCell _ _ _) _ _) _ _) _ _) _ _ = W at *
    refine bodyPost_ret (v := .agg #[.int .i64 (⟨x.xAddr, !x.xOn, x.xErrors, x.xSrtt, x.xVar, x.xRto⟩ : DPthWay).xAddr, .bool (⟨x.xAddr, !x.xOn, x.xErrors, x.xSrtt, x.xVar, x.xRto⟩ : DPthWay).xOn, .int .i64 (⟨x.xAddr, !x.xOn, x.xErrors, x.xSrtt, x.xVar, x.xRto⟩ : DPthWay).xErrors, .int .i64 (⟨x.xAddr, !x.xOn, x.xErrors, x.xSrtt, x.xVar, x.xRto⟩ : DPthWay).xSrtt, .int .i64 (⟨x.xAddr, !x.xOn, x.xErrors, x.xSrtt, x.xVar, x.xRto⟩ : DPthWay).xVar, .int .i64 (⟨x.xAddr, !x.xOn, x.xErrors, x.xSrtt, x.xVar, x.xRto⟩ : DPthWay).xRto]) (by simp [results, Try.results217, go_sem, rc0, rc1, rc2, rc3, rc4, rc5]) rfl ?_
    exact ⟨(⟨x.xAddr, !x.xOn, x.xErrors, x.xSrtt, x.xVar, x.xRto⟩ : DPthWay), q1, rfl, by omega, HR'.out, HF'.out⟩
  · go_wp2_with fail
    refine (pick_k g q1 B 5 xs _ (HR.out.alloc _) (by omega) (by omega)).mono ?_
    rintro e w5 ⟨z, q5, hz5, rfl, hq5, hr5, hf5, hs5⟩
    obtain ⟨m, rfl⟩ := Int.eq_ofNat_of_zero_le hz5.1
    have hm : m < 5 := by omega
    have hct := tab_at [(-1), 0, 2, 3, 4] _ rfl hf5 (.inr (by have := HS.out; omega)) hm
    replace C := Lib.hid ((C.out.alloc (.cells #[.int .i64 (-1), .int .i64 (0), .int .i64 (2), .int .i64 (3), .int .i64 (4)] 3)).fr1 hf5 (by omega))
    replace K := Lib.hid ((K.out.alloc (.cells #[.int .i64 (-1), .int .i64 (0), .int .i64 (2), .int .i64 (3), .int .i64 (4)] 3)).fr1 hf5 (by omega))
    replace HF := Lib.hid ((HF.out.alloc (.cells #[.int .i64 (-1), .int .i64 (0), .int .i64 (2), .int .i64 (3), .int .i64 (4)] 3)).trans hf5)
    replace HR := Lib.hid hr5
    clear hr5 hf5 hs5
    generalize tv [(-1), 0, 2, 3, 4] m = val at *
    have hmI : (m : Int) < 5 := by omega
    have z0 := C.out.frozen
    have z1 := K.out.frozen
    have k := C.out
    have pc0 := k.at (i := 0) rfl
    have pc1 := k.at (i := 1) rfl
    have pc2 := k.at (i := 2) rfl
    have pc3 := k.at (i := 3) rfl
    have pc4 := k.at (i := 4) rfl
    have pc5 := k.at (i := 5) rfl
    clear k
    have k := K.out
    have kc0 := k.at (i := 0) rfl
    have kc1 := k.at (i := 1) rfl
    have kc2 := k.at (i := 2) rfl
    have kc3 := k.at (i := 3) rfl
    have kc4 := k.at (i := 4) rfl
    have kc5 := k.at (i := 5) rfl
    clear k
    go_wp2
    clear z0 z1 pc0 kc0 pc1 kc1 pc2 kc2 pc3 kc3 pc4 kc4 pc5 kc5
    have rr := Blk.put6 (x := zWay) (⟨x.xAddr, x.xOn, val, x.xSrtt, x.xVar, x.xRto⟩ : DPthWay) (Blk.far (b' := w.heap.size) (o := 2) (v := .int .i64 val) K.out (show w.heap.size ≠ w.heap.size + 1 by omega))
    have k := rr
    have rc0 := k.at (i := 0) rfl
    have rc1 := k.at (i := 1) rfl
    have rc2 := k.at (i := 2) rfl
    have rc3 := k.at (i := 3) rfl
    have rc4 := k.at (i := 4) rfl
    have rc5 := k.at (i := 5) rfl
    clear k
    clear rr
    have HR' := Lib.hid ((HR.out.fr (Fr.set1 (b := w.heap.size) (o := 2) (.int .i64 val)) hB).fr (Fr.put6 (b := w.heap.size + 1) (.int .i64 ((⟨x.xAddr, x.xOn, val, x.xSrtt, x.xVar, x.xRto⟩ : DPthWay)).xAddr) (.bool ((⟨x.xAddr, x.xOn, val, x.xSrtt, x.xVar, x.xRto⟩ : DPthWay)).xOn) (.int .i64 ((⟨x.xAddr, x.xOn, val, x.xSrtt, x.xVar, x.xRto⟩ : DPthWay)).xErrors) (.int .i64 ((⟨x.xAddr, x.xOn, val, x.xSrtt, x.xVar, x.xRto⟩ : DPthWay)).xSrtt) (.int .i64 ((⟨x.xAddr, x.xOn, val, x.xSrtt, x.xVar, x.xRto⟩ : DPthWay)).xVar) (.int .i64 ((⟨x.xAddr, x.xOn, val, x.xSrtt, x.xVar, x.xRto⟩ : DPthWay)).xRto)) (by omega))
    have HF' := Lib.hid ((HF.out.later (Fr.set1 (b := w.heap.size) (o := 2) (.int .i64 val)) (Nat.le_refl _)).later (Fr.put6 (b := w.heap.size + 1) (.int .i64 ((⟨x.xAddr, x.xOn, val, x.xSrtt, x.xVar, x.xRto⟩ : DPthWay)).xAddr) (.bool ((⟨x.xAddr, x.xOn, val, x.xSrtt, x.xVar, x.xRto⟩ : DPthWay)).xOn) (.int .i64 ((⟨x.xAddr, x.xOn, val, x.xSrtt, x.xVar, x.xRto⟩ : DPthWay)).xErrors) (.int .i64 ((⟨x.xAddr, x.xOn, val, x.xSrtt, x.xVar, x.xRto⟩ : DPthWay)).xSrtt) (.int .i64 ((⟨x.xAddr, x.xOn, val, x.xSrtt, x.xVar, x.xRto⟩ : DPthWay)).xVar) (.int .i64 ((⟨x.xAddr, x.xOn, val, x.xSrtt, x.xVar, x.xRto⟩ : DPthWay)).xRto)) (by omega))
    generalize World.setCell (World.setCell (World.setCell (World.setCell (World.setCell _ _ _) _ _) _ _) _ _) _ _ = W at *
    refine bodyPost_ret (v := .agg #[.int .i64 (⟨x.xAddr, x.xOn, val, x.xSrtt, x.xVar, x.xRto⟩ : DPthWay).xAddr, .bool (⟨x.xAddr, x.xOn, val, x.xSrtt, x.xVar, x.xRto⟩ : DPthWay).xOn, .int .i64 (⟨x.xAddr, x.xOn, val, x.xSrtt, x.xVar, x.xRto⟩ : DPthWay).xErrors, .int .i64 (⟨x.xAddr, x.xOn, val, x.xSrtt, x.xVar, x.xRto⟩ : DPthWay).xSrtt, .int .i64 (⟨x.xAddr, x.xOn, val, x.xSrtt, x.xVar, x.xRto⟩ : DPthWay).xVar, .int .i64 (⟨x.xAddr, x.xOn, val, x.xSrtt, x.xVar, x.xRto⟩ : DPthWay).xRto]) (by simp [results, Try.results217, go_sem, rc0, rc1, rc2, rc3, rc4, rc5]) rfl ?_
    exact ⟨(⟨x.xAddr, x.xOn, val, x.xSrtt, x.xVar, x.xRto⟩ : DPthWay), q5, rfl, by omega, HR'.out, HF'.out⟩
  · go_wp2_with fail
    refine (pick_k g q1 B 4 xs _ (HR.out.alloc _) (by omega) (by omega)).mono ?_
    rintro e w5 ⟨z, q5, hz5, rfl, hq5, hr5, hf5, hs5⟩
    obtain ⟨m, rfl⟩ := Int.eq_ofNat_of_zero_le hz5.1
    have hm : m < 4 := by omega
    have hct := tab_at [(-1), 0, 128, 129] _ rfl hf5 (.inr (by have := HS.out; omega)) hm
    replace C := Lib.hid ((C.out.alloc (.cells #[.int .i64 (-1), .int .i64 (0), .int .i64 (128), .int .i64 (129)] 3)).fr1 hf5 (by omega))
    replace K := Lib.hid ((K.out.alloc (.cells #[.int .i64 (-1), .int .i64 (0), .int .i64 (128), .int .i64 (129)] 3)).fr1 hf5 (by omega))
    replace HF := Lib.hid ((HF.out.alloc (.cells #[.int .i64 (-1), .int .i64 (0), .int .i64 (128), .int .i64 (129)] 3)).trans hf5)
    replace HR := Lib.hid hr5
    clear hr5 hf5 hs5
    generalize tv [(-1), 0, 128, 129] m = val at *
    have hmI : (m : Int) < 4 := by omega
    have z0 := C.out.frozen
    have z1 := K.out.frozen
    have k := C.out
    have pc0 := k.at (i := 0) rfl
    have pc1 := k.at (i := 1) rfl
    have pc2 := k.at (i := 2) rfl
    have pc3 := k.at (i := 3) rfl
    have pc4 := k.at (i := 4) rfl
    have pc5 := k.at (i := 5) rfl
    clear k
    have k := K.out
    have kc0 := k.at (i := 0) rfl
    have kc1 := k.at (i := 1) rfl
    have kc2 := k.at (i := 2) rfl
    have kc3 := k.at (i := 3) rfl
    have kc4 := k.at (i := 4) rfl
    have kc5 := k.at (i := 5) rfl
    clear k
    go_wp2
    clear z0 z1 pc0 kc0 pc1 kc1 pc2 kc2 pc3 kc3 pc4 kc4 pc5 kc5
    have rr := Blk.put6 (x := zWay) (⟨x.xAddr, x.xOn, x.xErrors, val, x.xVar, x.xRto⟩ : DPthWay) (Blk.far (b' := w.heap.size) (o := 3) (v := .int .i64 val) K.out (show w.heap.size ≠ w.heap.size + 1 by omega))
    have k := rr
    have rc0 := k.at (i := 0) rfl
    have rc1 := k.at (i := 1) rfl
    have rc2 := k.at (i := 2) rfl
    have rc3 := k.at (i := 3) rfl
    have rc4 := k.at (i := 4) rfl
    have rc5 := k.at (i := 5) rfl
    clear k
    clear rr
    have HR' := Lib.hid ((HR.out.fr (Fr.set1 (b := w.heap.size) (o := 3) (.int .i64 val)) hB).fr (Fr.put6 (b := w.heap.size + 1) (.int .i64 ((⟨x.xAddr, x.xOn, x.xErrors, val, x.xVar, x.xRto⟩ : DPthWay)).xAddr) (.bool ((⟨x.xAddr, x.xOn, x.xErrors, val, x.xVar, x.xRto⟩ : DPthWay)).xOn) (.int .i64 ((⟨x.xAddr, x.xOn, x.xErrors, val, x.xVar, x.xRto⟩ : DPthWay)).xErrors) (.int .i64 ((⟨x.xAddr, x.xOn, x.xErrors, val, x.xVar, x.xRto⟩ : DPthWay)).xSrtt) (.int .i64 ((⟨x.xAddr, x.xOn, x.xErrors, val, x.xVar, x.xRto⟩ : DPthWay)).xVar) (.int .i64 ((⟨x.xAddr, x.xOn, x.xErrors, val, x.xVar, x.xRto⟩ : DPthWay)).xRto)) (by omega))
    have HF' := Lib.hid ((HF.out.later (Fr.set1 (b := w.heap.size) (o := 3) (.int .i64 val)) (Nat.le_refl _)).later (Fr.put6 (b := w.heap.size + 1) (.int .i64 ((⟨x.xAddr, x.xOn, x.xErrors, val, x.xVar, x.xRto⟩ : DPthWay)).xAddr) (.bool ((⟨x.xAddr, x.xOn, x.xErrors, val, x.xVar, x.xRto⟩ : DPthWay)).xOn) (.int .i64 ((⟨x.xAddr, x.xOn, x.xErrors, val, x.xVar, x.xRto⟩ : DPthWay)).xErrors) (.int .i64 ((⟨x.xAddr, x.xOn, x.xErrors, val, x.xVar, x.xRto⟩ : DPthWay)).xSrtt) (.int .i64 ((⟨x.xAddr, x.xOn, x.xErrors, val, x.xVar, x.xRto⟩ : DPthWay)).xVar) (.int .i64 ((⟨x.xAddr, x.xOn, x.xErrors, val, x.xVar, x.xRto⟩ : DPthWay)).xRto)) (by omega))
    generalize World.setCell (World.setCell (World.setCell (World.setCell (World.setCell _ _ _) _ _) _ _) _ _) _ _ = W at *
    refine bodyPost_ret (v := .agg #[.int .i64 (⟨x.xAddr, x.xOn, x.xErrors, val, x.xVar, x.xRto⟩ : DPthWay).xAddr, .bool (⟨x.xAddr, x.xOn, x.xErrors, val, x.xVar, x.xRto⟩ : DPthWay).xOn, .int .i64 (⟨x.xAddr, x.xOn, x.xErrors, val, x.xVar, x.xRto⟩ : DPthWay).xErrors, .int .i64 (⟨x.xAddr, x.xOn, x.xErrors, val, x.xVar, x.xRto⟩ : DPthWay).xSrtt, .int .i64 (⟨x.xAddr, x.xOn, x.xErrors, val, x.xVar, x.xRto⟩ : DPthWay).xVar, .int .i64 (⟨x.xAddr, x.xOn, x.xErrors, val, x.xVar, x.xRto⟩ : DPthWay).xRto]) (by simp [results, Try.results217, go_sem, rc0, rc1, rc2, rc3, rc4, rc5]) rfl ?_
    exact ⟨(⟨x.xAddr, x.xOn, x.xErrors, val, x.xVar, x.xRto⟩ : DPthWay), q5, rfl, by omega, HR'.out, HF'.out⟩
  · go_wp2_with fail
    refine (pick_k g q1 B 4 xs _ (HR.out.alloc _) (by omega) (by omega)).mono ?_
    rintro e w5 ⟨z, q5, hz5, rfl, hq5, hr5, hf5, hs5⟩
    obtain ⟨m, rfl⟩ := Int.eq_ofNat_of_zero_le hz5.1
    have hm : m < 4 := by omega
    have hct := tab_at [(-1), 0, 64, 65] _ rfl hf5 (.inr (by have := HS.out; omega)) hm
    replace C := Lib.hid ((C.out.alloc (.cells #[.int .i64 (-1), .int .i64 (0), .int .i64 (64), .int .i64 (65)] 3)).fr1 hf5 (by omega))
    replace K := Lib.hid ((K.out.alloc (.cells #[.int .i64 (-1), .int .i64 (0), .int .i64 (64), .int .i64 (65)] 3)).fr1 hf5 (by omega))
    replace HF := Lib.hid ((HF.out.alloc (.cells #[.int .i64 (-1), .int .i64 (0), .int .i64 (64), .int .i64 (65)] 3)).trans hf5)
    replace HR := Lib.hid hr5
    clear hr5 hf5 hs5
    generalize tv [(-1), 0, 64, 65] m = val at *
    have hmI : (m : Int) < 4 := by omega
    have z0 := C.out.frozen
    have z1 := K.out.frozen
    have k := C.out
    have pc0 := k.at (i := 0) rfl
    have pc1 := k.at (i := 1) rfl
    have pc2 := k.at (i := 2) rfl
    have pc3 := k.at (i := 3) rfl
    have pc4 := k.at (i := 4) rfl
    have pc5 := k.at (i := 5) rfl
    clear k
    have k := K.out
    have kc0 := k.at (i := 0) rfl
    have kc1 := k.at (i := 1) rfl
    have kc2 := k.at (i := 2) rfl
    have kc3 := k.at (i := 3) rfl
    have kc4 := k.at (i := 4) rfl
    have kc5 := k.at (i := 5) rfl
    clear k
    go_wp2
    clear z0 z1 pc0 kc0 pc1 kc1 pc2 kc2 pc3 kc3 pc4 kc4 pc5 kc5
    have rr := Blk.put6 (x := zWay) (⟨x.xAddr, x.xOn, x.xErrors, x.xSrtt, val, x.xRto⟩ : DPthWay) (Blk.far (b' := w.heap.size) (o := 4) (v := .int .i64 val) K.out (show w.heap.size ≠ w.heap.size + 1 by omega))
    have k := rr
    have rc0 := k.at (i := 0) rfl
    have rc1 := k.at (i := 1) rfl
    have rc2 := k.at (i := 2) rfl
    have rc3 := k.at (i := 3) rfl
    have rc4 := k.at (i := 4) rfl
    have rc5 := k.at (i := 5) rfl
    clear k
    clear rr
    have HR' := Lib.hid ((HR.out.fr (Fr.set1 (b := w.heap.size) (o := 4) (.int .i64 val)) hB).fr (Fr.put6 (b := w.heap.size + 1) (.int .i64 ((⟨x.xAddr, x.xOn, x.xErrors, x.xSrtt, val, x.xRto⟩ : DPthWay)).xAddr) (.bool ((⟨x.xAddr, x.xOn, x.xErrors, x.xSrtt, val, x.xRto⟩ : DPthWay)).xOn) (.int .i64 ((⟨x.xAddr, x.xOn, x.xErrors, x.xSrtt, val, x.xRto⟩ : DPthWay)).xErrors) (.int .i64 ((⟨x.xAddr, x.xOn, x.xErrors, x.xSrtt, val, x.xRto⟩ : DPthWay)).xSrtt) (.int .i64 ((⟨x.xAddr, x.xOn, x.xErrors, x.xSrtt, val, x.xRto⟩ : DPthWay)).xVar) (.int .i64 ((⟨x.xAddr, x.xOn, x.xErrors, x.xSrtt, val, x.xRto⟩ : DPthWay)).xRto)) (by omega))
    have HF' := Lib.hid ((HF.out.later (Fr.set1 (b := w.heap.size) (o := 4) (.int .i64 val)) (Nat.le_refl _)).later (Fr.put6 (b := w.heap.size + 1) (.int .i64 ((⟨x.xAddr, x.xOn, x.xErrors, x.xSrtt, val, x.xRto⟩ : DPthWay)).xAddr) (.bool ((⟨x.xAddr, x.xOn, x.xErrors, x.xSrtt, val, x.xRto⟩ : DPthWay)).xOn) (.int .i64 ((⟨x.xAddr, x.xOn, x.xErrors, x.xSrtt, val, x.xRto⟩ : DPthWay)).xErrors) (.int .i64 ((⟨x.xAddr, x.xOn, x.xErrors, x.xSrtt, val, x.xRto⟩ : DPthWay)).xSrtt) (.int .i64 ((⟨x.xAddr, x.xOn, x.xErrors, x.xSrtt, val, x.xRto⟩ : DPthWay)).xVar) (.int .i64 ((⟨x.xAddr, x.xOn, x.xErrors, x.xSrtt, val, x.xRto⟩ : DPthWay)).xRto)) (by omega))
    generalize World.setCell (World.setCell (World.setCell (World.setCell (World.setCell _ _ _) _ _) _ _) _ _) _ _ = W at *
    refine bodyPost_ret (v := .agg #[.int .i64 (⟨x.xAddr, x.xOn, x.xErrors, x.xSrtt, val, x.xRto⟩ : DPthWay).xAddr, .bool (⟨x.xAddr, x.xOn, x.xErrors, x.xSrtt, val, x.xRto⟩ : DPthWay).xOn, .int .i64 (⟨x.xAddr, x.xOn, x.xErrors, x.xSrtt, val, x.xRto⟩ : DPthWay).xErrors, .int .i64 (⟨x.xAddr, x.xOn, x.xErrors, x.xSrtt, val, x.xRto⟩ : DPthWay).xSrtt, .int .i64 (⟨x.xAddr, x.xOn, x.xErrors, x.xSrtt, val, x.xRto⟩ : DPthWay).xVar, .int .i64 (⟨x.xAddr, x.xOn, x.xErrors, x.xSrtt, val, x.xRto⟩ : DPthWay).xRto]) (by simp [results, Try.results217, go_sem, rc0, rc1, rc2, rc3, rc4, rc5]) rfl ?_
    exact ⟨(⟨x.xAddr, x.xOn, x.xErrors, x.xSrtt, val, x.xRto⟩ : DPthWay), q5, rfl, by omega, HR'.out, HF'.out⟩
  · go_wp2_with fail
    refine (pick_k g q1 B 4 xs _ (HR.out.alloc _) (by omega) (by omega)).mono ?_
    rintro e w5 ⟨z, q5, hz5, rfl, hq5, hr5, hf5, hs5⟩
    obtain ⟨m, rfl⟩ := Int.eq_ofNat_of_zero_le hz5.1
    have hm : m < 4 := by omega
    have hct := tab_at [1, 2, 16, 17] _ rfl hf5 (.inr (by have := HS.out; omega)) hm
    replace C := Lib.hid ((C.out.alloc (.cells #[.int .i64 (1), .int .i64 (2), .int .i64 (16), .int .i64 (17)] 3)).fr1 hf5 (by omega))
    replace K := Lib.hid ((K.out.alloc (.cells #[.int .i64 (1), .int .i64 (2), .int .i64 (16), .int .i64 (17)] 3)).fr1 hf5 (by omega))
    replace HF := Lib.hid ((HF.out.alloc (.cells #[.int .i64 (1), .int .i64 (2), .int .i64 (16), .int .i64 (17)] 3)).trans hf5)
    replace HR := Lib.hid hr5
    clear hr5 hf5 hs5
    generalize tv [1, 2, 16, 17] m = val at *
    have hmI : (m : Int) < 4 := by omega
    have z0 := C.out.frozen
    have z1 := K.out.frozen
    have k := C.out
    have pc0 := k.at (i := 0) rfl
    have pc1 := k.at (i := 1) rfl
    have pc2 := k.at (i := 2) rfl
    have pc3 := k.at (i := 3) rfl
    have pc4 := k.at (i := 4) rfl
    have pc5 := k.at (i := 5) rfl
    clear k
    have k := K.out
    have kc0 := k.at (i := 0) rfl
    have kc1 := k.at (i := 1) rfl
    have kc2 := k.at (i := 2) rfl
    have kc3 := k.at (i := 3) rfl
    have kc4 := k.at (i := 4) rfl
    have kc5 := k.at (i := 5) rfl
    clear k
    go_wp2
    clear z0 z1 pc0 kc0 pc1 kc1 pc2 kc2 pc3 kc3 pc4 kc4 pc5 kc5
    have rr := Blk.put6 (x := zWay) (⟨x.xAddr, x.xOn, x.xErrors, x.xSrtt, x.xVar, val⟩ : DPthWay) (Blk.far (b' := w.heap.size) (o := 5) (v := .int .i64 val) K.out (show w.heap.size ≠ w.heap.size + 1 by omega))
    have k := rr
    have rc0 := k.at (i := 0) rfl
    have rc1 := k.at (i := 1) rfl
    have rc2 := k.at (i := 2) rfl
    have rc3 := k.at (i := 3) rfl
    have rc4 := k.at (i := 4) rfl
    have rc5 := k.at (i := 5) rfl
    clear k
    clear rr
    have HR' := Lib.hid ((HR.out.fr (Fr.set1 (b := w.heap.size) (o := 5) (.int .i64 val)) hB).fr (Fr.put6 (b := w.heap.size + 1) (.int .i64 ((⟨x.xAddr, x.xOn, x.xErrors, x.xSrtt, x.xVar, val⟩ : DPthWay)).xAddr) (.bool ((⟨x.xAddr, x.xOn, x.xErrors, x.xSrtt, x.xVar, val⟩ : DPthWay)).xOn) (.int .i64 ((⟨x.xAddr, x.xOn, x.xErrors, x.xSrtt, x.xVar, val⟩ : DPthWay)).xErrors) (.int .i64 ((⟨x.xAddr, x.xOn, x.xErrors, x.xSrtt, x.xVar, val⟩ : DPthWay)).xSrtt) (.int .i64 ((⟨x.xAddr, x.xOn, x.xErrors, x.xSrtt, x.xVar, val⟩ : DPthWay)).xVar) (.int .i64 ((⟨x.xAddr, x.xOn, x.xErrors, x.xSrtt, x.xVar, val⟩ : DPthWay)).xRto)) (by omega))
    have HF' := Lib.hid ((HF.out.later (Fr.set1 (b := w.heap.size) (o := 5) (.int .i64 val)) (Nat.le_refl _)).later (Fr.put6 (b := w.heap.size + 1) (.int .i64 ((⟨x.xAddr, x.xOn, x.xErrors, x.xSrtt, x.xVar, val⟩ : DPthWay)).xAddr) (.bool ((⟨x.xAddr, x.xOn, x.xErrors, x.xSrtt, x.xVar, val⟩ : DPthWay)).xOn) (.int .i64 ((⟨x.xAddr, x.xOn, x.xErrors, x.xSrtt, x.xVar, val⟩ : DPthWay)).xErrors) (.int .i64 ((⟨x.xAddr, x.xOn, x.xErrors, x.xSrtt, x.xVar, val⟩ : DPthWay)).xSrtt) (.int .i64 ((⟨x.xAddr, x.xOn, x.xErrors, x.xSrtt, x.xVar, val⟩ : DPthWay)).xVar) (.int .i64 ((⟨x.xAddr, x.xOn, x.xErrors, x.xSrtt, x.xVar, val⟩ : DPthWay)).xRto)) (by omega))
    generalize World.setCell (World.setCell (World.setCell (World.setCell (World.setCell _ _ _) _ _) _ _) _ _) _ _ = W at *
    refine bodyPost_ret (v := .agg #[.int .i64 (⟨x.xAddr, x.xOn, x.xErrors, x.xSrtt, x.xVar, val⟩ : DPthWay).xAddr, .bool (⟨x.xAddr, x.xOn, x.xErrors, x.xSrtt, x.xVar, val⟩ : DPthWay).xOn, .int .i64 (⟨x.xAddr, x.xOn, x.xErrors, x.xSrtt, x.xVar, val⟩ : DPthWay).xErrors, .int .i64 (⟨x.xAddr, x.xOn, x.xErrors, x.xSrtt, x.xVar, val⟩ : DPthWay).xSrtt, .int .i64 (⟨x.xAddr, x.xOn, x.xErrors, x.xSrtt, x.xVar, val⟩ : DPthWay).xVar, .int .i64 (⟨x.xAddr, x.xOn, x.xErrors, x.xSrtt, x.xVar, val⟩ : DPthWay).xRto]) (by simp [results, Try.results217, go_sem, rc0, rc1, rc2, rc3, rc4, rc5]) rfl ?_
    exact ⟨(⟨x.xAddr, x.xOn, x.xErrors, x.xSrtt, x.xVar, val⟩ : DPthWay), q5, rfl, by omega, HR'.out, HF'.out⟩
set_option maxRecDepth 100000 in
set_option maxHeartbeats 2000000 in
theorem l32AnyWay_any (g p B : Nat) (xs : List UInt8) (w : World) (hr : Rdk B w g xs p) (hp : p + 40 ≤ 1099511627776) (hB : B ≤ w.heap.size) :
    Calls Try.prog 95 #[.pointer (some ⟨g, 0, none⟩)] w fun e w' => ∃ (x' : DPthWay) (q : Nat), e = .returned (.agg #[.int .i64 x'.xAddr, .bool x'.xOn, .int .i64 x'.xErrors, .int .i64 x'.xSrtt, .int .i64 x'.xVar, .int .i64 x'.xRto]) ∧ q ≤ p + 17 ∧ Rdk B w' g xs q ∧ Fr g (g + 1) w w' := by
  have hg := hr.lt
  have K := Lib.hid (Blk.new (w := w) (b := w.heap.size) #[.int .i64 0, .bool false, .int .i64 0, .int .i64 0, .int .i64 0, .int .i64 0] 24 rfl)
  go_enter Try.func95, Try.ntmps95
  go_wp2_with fail
  refine (l32Way_any g p B xs _ (hr.alloc _) (by omega) (by simp; omega)).mono ?_
  rintro e w1 ⟨x, q1, rfl, hq1, hr1, hf1⟩
  replace K := Lib.hid ((K.out.fr1 hf1 (by omega)).alloc (.cells (wayL x).toArray 24))
  have C := Lib.hid (Blk.new (w := w1) (b := w1.heap.size) (wayL x).toArray 24 rfl)
  have HF := Lib.hid ((((Fr.refl g (g + 1) w).alloc _).trans hf1).alloc (.cells (wayL x).toArray 24))
  have HR := Lib.hid (hr1.alloc (.cells (wayL x).toArray 24))
  have HS := Lib.hid (show w.heap.size < w1.heap.size from Nat.lt_of_lt_of_le (by simp) hf1.size)
  clear hr hr1 hf1
  go_wp2_with fail
  refine (pick_k g q1 B 16 xs _ HR.out (by omega) (by omega)).mono ?_
  rintro e w2 ⟨y, q2, hy, rfl, hq2, hr2, hf2, hs2⟩
  replace K := Lib.hid (K.out.fr1 hf2 (by omega))
  replace C := Lib.hid (C.out.fr1 hf2 (by have := HS.out; omega))
  replace HF := Lib.hid (HF.out.trans hf2)
  replace HR := Lib.hid hr2
  have HS2 := Lib.hid (show w.heap.size ≤ w2.heap.size by have := K.out.lt; omega)
  clear hr2 hf2 hs2
  have k := C.out
  have pc0 := k.at (i := 0) rfl
  have pc1 := k.at (i := 1) rfl
  have pc2 := k.at (i := 2) rfl
  have pc3 := k.at (i := 3) rfl
  have pc4 := k.at (i := 4) rfl
  have pc5 := k.at (i := 5) rfl
  clear k
  generalize w1.heap.size = b at *
  by_cases hy0 : y = 0
  · subst hy0
    go_wp2_with fail
    refine (l32SpoilWay_any g q2 B x xs _ HR.out (by omega) (by have := HS2.out; omega)).mono ?_
    rintro e w3 ⟨x', q3, rfl, hq3, hr3, hf3⟩
    clear pc0 pc1 pc2 pc3 pc4 pc5
    replace K := Lib.hid (K.out.fr1 hf3 (by omega))
    replace HF := Lib.hid (HF.out.trans hf3)
    replace HR := Lib.hid hr3
    clear hr3 hf3 C
    have z1 := K.out.frozen
    have k := K.out
    have kc0 := k.at (i := 0) rfl
    have kc1 := k.at (i := 1) rfl
    have kc2 := k.at (i := 2) rfl
    have kc3 := k.at (i := 3) rfl
    have kc4 := k.at (i := 4) rfl
    have kc5 := k.at (i := 5) rfl
    clear k
    go_wp2
    clear z1 kc0 kc1 kc2 kc3 kc4 kc5
    have rr := Blk.put6 (x := zWay) x' (K.out)
    have k := rr
    have rc0 := k.at (i := 0) rfl
    have rc1 := k.at (i := 1) rfl
    have rc2 := k.at (i := 2) rfl
    have rc3 := k.at (i := 3) rfl
    have rc4 := k.at (i := 4) rfl
    have rc5 := k.at (i := 5) rfl
    clear k
    clear rr
    have HR' := Lib.hid ((HR.out).fr (Fr.put6 (b := w.heap.size) (.int .i64 (x').xAddr) (.bool (x').xOn) (.int .i64 (x').xErrors) (.int .i64 (x').xSrtt) (.int .i64 (x').xVar) (.int .i64 (x').xRto)) (by omega))
    have HF' := Lib.hid ((HF.out).later (Fr.put6 (b := w.heap.size) (.int .i64 (x').xAddr) (.bool (x').xOn) (.int .i64 (x').xErrors) (.int .i64 (x').xSrtt) (.int .i64 (x').xVar) (.int .i64 (x').xRto)) (by omega))
    generalize World.setCell (World.setCell (World.setCell (World.setCell (World.setCell _ _ _) _ _) _ _) _ _) _ _ = W at *
    refine bodyPost_ret (v := .agg #[.int .i64 x'.xAddr, .bool x'.xOn, .int .i64 x'.xErrors, .int .i64 x'.xSrtt, .int .i64 x'.xVar, .int .i64 x'.xRto]) (by simp [results, Try.results95, go_sem, rc0, rc1, rc2, rc3, rc4, rc5]) rfl ?_
    exact ⟨x', q3, rfl, by omega, HR'.out, HF'.out⟩
  · have hy1 : (y == 0) = false := by simp [hy0]
    have z1 := K.out.frozen
    have k := K.out
    have kc0 := k.at (i := 0) rfl
    have kc1 := k.at (i := 1) rfl
    have kc2 := k.at (i := 2) rfl
    have kc3 := k.at (i := 3) rfl
    have kc4 := k.at (i := 4) rfl
    have kc5 := k.at (i := 5) rfl
    clear k
    go_wp2
    clear z1 kc0 pc0 kc1 pc1 kc2 pc2 kc3 pc3 kc4 pc4 kc5 pc5
    have rr := Blk.put6 (x := zWay) x (K.out)
    have k := rr
    have rc0 := k.at (i := 0) rfl
    have rc1 := k.at (i := 1) rfl
    have rc2 := k.at (i := 2) rfl
    have rc3 := k.at (i := 3) rfl
    have rc4 := k.at (i := 4) rfl
    have rc5 := k.at (i := 5) rfl
    clear k
    clear rr
    have HR' := Lib.hid ((HR.out).fr (Fr.put6 (b := w.heap.size) (.int .i64 (x).xAddr) (.bool (x).xOn) (.int .i64 (x).xErrors) (.int .i64 (x).xSrtt) (.int .i64 (x).xVar) (.int .i64 (x).xRto)) (by omega))
    have HF' := Lib.hid ((HF.out).later (Fr.put6 (b := w.heap.size) (.int .i64 (x).xAddr) (.bool (x).xOn) (.int .i64 (x).xErrors) (.int .i64 (x).xSrtt) (.int .i64 (x).xVar) (.int .i64 (x).xRto)) (by omega))
    generalize World.setCell (World.setCell (World.setCell (World.setCell (World.setCell _ _ _) _ _) _ _) _ _) _ _ = W at *
    refine bodyPost_ret (v := .agg #[.int .i64 x.xAddr, .bool x.xOn, .int .i64 x.xErrors, .int .i64 x.xSrtt, .int .i64 x.xVar, .int .i64 x.xRto]) (by simp [results, Try.results95, go_sem, rc0, rc1, rc2, rc3, rc4, rc5]) rfl ?_
    exact ⟨x, q2, rfl, by omega, HR'.out, HF'.out⟩
end Go.Proofs.Ythdjjgbjemaabaa
