/-
  The draws of keys and of a choice. (Written by wip/tools/gendrawk.py.)
-/
import Derived.Test.YtbceikhmoblacaaDrawK
namespace Go.Proofs.Ytbceikhmoblacaa
open Go.ChangeShapes Go.WideShapes Go.ChangeAt Go.RowKit Go.Maps
set_option linter.unusedVariables false
set_option linter.unusedSimpArgs false

set_option maxHeartbeats 1000000 in
theorem l33AnyKeys_any (g p B : Nat) (xs : List UInt8) (w : World) (hr : Rdk B w g xs p) (hp : p + 24 ≤ 1099511627776) (hB : B ≤ w.heap.size) :
    Calls Try.prog 91 #[.pointer (some ⟨g, 0, none⟩)] w fun e w' => ∃ v n q, e = .returned v ∧ n ≤ 6 ∧ OwK w' w.heap.size v n ∧ q ≤ p + 15 ∧ Rdk B w' g xs q ∧ Fr g (g + 1) w w' := by
  have hg := hr.lt
  go_enter Try.func91, Try.ntmps91
  go_wp2_with fail
  refine (l33Keys_any g p B xs _ hr (by omega) hB).mono ?_
  rintro e w1 ⟨v, n, q1, rfl, hn, ho1, hq1, hr1, hf1⟩
  have HS := Lib.hid hf1.size
  have HF := Lib.hid hf1
  have HO := Lib.hid ho1
  clear hr hf1 ho1
  go_wp2_with fail
  refine (pick_k g q1 B 12 xs _ hr1 (by omega) (by omega)).mono ?_
  rintro e w2 ⟨y, q2, hy, rfl, hq2, hr2, hf2, hs2⟩
  replace HO := Lib.hid (HO.out.fr hf2 (by omega))
  replace HF := Lib.hid (HF.out.trans hf2)
  replace HS := Lib.hid (show w.heap.size ≤ w2.heap.size by have := HS.out; omega)
  have HR := Lib.hid hr2
  clear hr1 hr2 hf2 hs2
  by_cases hy0 : y = 0
  · subst hy0
    go_wp2_with fail
    refine (l33SpoilKeys_any g q2 B _ n v xs _ HR.out HO.out hn (by omega) (by have := HS.out; omega)).mono ?_
    rintro e w3 ⟨v3, n3, q3, rfl, hn3, ho3, hq3, hr3, hf3⟩
    have O3 := Lib.hid (show OwK w3 w.heap.size v3 n3 by obtain ⟨cs, h1, h2⟩ := ho3; exact ⟨cs, row_mono h1 HS.out, h2⟩)
    have R3 := Lib.hid hr3
    have F3 := Lib.hid (HF.out.trans hf3)
    clear ho3 hr3 hf3
    go_wp2
    go_ret
    exact ⟨_, n3, q3, rfl, hn3, O3.out, by omega, R3.out, F3.out⟩
  · have hy1 : (y == 0) = false := by simp [hy0]
    go_wp2
    go_ret
    exact ⟨_, n, q2, rfl, by omega, HO.out, by omega, HR.out, HF.out⟩
def keyTab : List Int := [0, 99, 100, 150, 250, 999, -1, 1000]
set_option maxHeartbeats 2000000 in
theorem drawKeyMatch_any (v : Value) (xs : List UInt8) (w : World) (hv : RdB w v xs) :
    Calls Try.prog 24 #[v] w fun e w' => ∃ (u : Value) (ks : List DKeyRow) (d : Int), e = .returned (.tuple #[u, .int .i64 d]) ∧ RdKeyRowS w' u ks ∧ ks.length ≤ 6 ∧ Below w.heap.size w w' := by
  go_enter Try.func24, Try.ntmps24
  go_wp2_with fail
  refine (l30Open_any v xs _ hv).mono ?_
  rintro e w1 ⟨rfl, hr1, hb1, hs1⟩
  have Hb1 := Lib.hid hb1
  have Hs1 := Lib.hid hs1
  have hk1 : Rdk w1.heap.size w1 w.heap.size (xs.take 2000) 0 := Rdk.of hr1 (Nat.le_refl _)
  clear hb1 hs1 hr1
  generalize hg : w.heap.size = g at *
  have Hg := Lib.hid hg
  clear hg
  generalize xs.take 2000 = ys at *
  have hle : g + 1 ≤ w1.heap.size := by have := Hs1.out; omega
  have hk1' := hk1.alloc (.cells #[.int .i64 0, .int .i64 99, .int .i64 100, .int .i64 150, .int .i64 250, .int .i64 999, .int .i64 (-1), .int .i64 1000] 3)
  have FIN := Lib.hid (show ∀ (W : World) (n : Nat) (u : Value) (lo : Nat), OwK W lo u n → n ≤ 6 → Fr g (g + 1) w1 W → ∃ ks : List DKeyRow, RdKeyRowS W u ks ∧ ks.length ≤ 6 ∧ Below w.heap.size w W from fun W n u lo ho hn hf => by
    obtain ⟨ks, h1, h2⟩ := ho.read
    refine ⟨ks, h2, by omega, ?_⟩
    rw [Hg.out]
    exact Hb1.out.trans (hf.below (Nat.le_refl _) (by omega)))
  go_wp2_with fail
  go_region_with (first
      | (go_at_call 91; refine (l33AnyKeys_any g 0 w1.heap.size ys _ (by first | exact hk1 | exact hk1') (by omega) (by first | exact Nat.le_refl _ | simp)).mono ?_; rintro e w3 ⟨u, n, q3, rfl, hn, ho3, hq3, hr3, hf3⟩; first | have hw3 : g + 1 ≤ w3.heap.size := Nat.le_trans hle (show w1.heap.size ≤ w3.heap.size from hf3.size) | have hw3 : g + 1 ≤ w3.heap.size := Nat.le_trans hle (Nat.le_trans (Nat.le_succ _) (show w1.heap.size + 1 ≤ w3.heap.size by have h := hf3.size; simp at h; exact h)))
      | (go_at_call 92; go_loud (refine (pick_k g q3 w1.heap.size 8 ys _ (by first | exact hr3 | exact hr3.alloc _) (by omega) (by omega)).mono ?_); go_loud (skip); go_loud (rintro e w4 ⟨z, q4, hz, he, hq4, hr4, hf4, hs4⟩); go_loud (subst he); go_loud (obtain ⟨k, rfl⟩ := Int.eq_ofNat_of_zero_le hz.1); go_loud (have hk : k < 8 := by omega); first | (have hcA : w4.cell? ⟨w1.heap.size, k, none⟩ = some (.int .i64 (tv keyTab k)) := tab_at keyTab _ rfl (hf3.undrew.trans hf4) (.inr hle) hk) | (have hcB : w4.cell? ⟨w3.heap.size, k, none⟩ = some (.int .i64 (tv keyTab k)) := tab_at keyTab _ rfl hf4 (.inr hw3) hk) | (have hcC := tab_new keyTab #[.int .i64 0, .int .i64 99, .int .i64 100, .int .i64 150, .int .i64 250, .int .i64 999, .int .i64 (-1), .int .i64 1000] rfl hk w4)))
  · obtain ⟨ks, K1, K2, K3⟩ := FIN.out w4 n u _ ((ho3.alloc _).fr hf4 hle) hn ((hf3.undrew.alloc _).trans hf4)
    have K1 := Lib.hid K1
    have K3 := Lib.hid K3
    generalize tv keyTab k = tk at *
    clear FIN ho3 hr3 hf3 hr4 hf4 hcB hk1' hk1 hs4
    go_wp2
    go_ret2
    exact ⟨_, ks, _, rfl, K1.out, K2, K3.out⟩
  · obtain ⟨ks, K1, K2, K3⟩ := FIN.out (w4.alloc (.cells #[.int .i64 0, .int .i64 99, .int .i64 100, .int .i64 150, .int .i64 250, .int .i64 999, .int .i64 (-1), .int .i64 1000] 3)) n u _ ((ho3.fr hf4 hle).alloc _) hn ((hf3.undrew.trans hf4).alloc _)
    have K1 := Lib.hid K1
    have K3 := Lib.hid K3
    have HE := Lib.hid (tab_elem keyTab (k := k) hk)
    clear FIN ho3 hr3 hf3 hr4 hf4 hcC hk1' hk1 hs4
    go_wp2
    go_ret2
    exact ⟨_, ks, tv keyTab k, congrArg (fun y => Ending.returned (.tuple #[u, y])) HE.out, K1.out, K2, K3.out⟩
  · obtain ⟨ks, K1, K2, K3⟩ := FIN.out w4 n u _ (ho3.fr hf4 (Nat.le_trans hle (by simp))) hn ((((Fr.refl g (g + 1) w1).alloc _).trans hf3.undrew).trans hf4)
    have K1 := Lib.hid K1
    have K3 := Lib.hid K3
    generalize tv keyTab k = tk at *
    clear FIN ho3 hr3 hf3 hr4 hf4 hcA hk1' hk1 hs4
    go_wp2
    go_ret2
    exact ⟨_, ks, _, rfl, K1.out, K2, K3.out⟩
end Go.Proofs.Ytbceikhmoblacaa
