/-
  A cookie is tasted: one plain function, and the model's contract. (Written by wip/tools/gentaste.py.)
-/
import Derived.Test.YtbceikhmoblacaaBakeI
import Derived.Test.YtbceikhmoblacaaOctGet
import Derived.Test.YtbceikhmoblacaaFree
import Derived.Test.YtbceikhmoblacaaWholeR
namespace Go.Proofs.Ytbceikhmoblacaa
open Go.ChangeShapes Go.WideShapes Go.ChangeAt Go.RowKit
set_option linter.unusedVariables false
set_option linter.unusedSimpArgs false

def cookieF (xs : List UInt8) : DAscCookie := ⟨getN xs 0 4, getN xs 4 4, getN xs 8 4, getN xs 12 4, getN xs 16 4, getN xs 20 4, getN xs 24 4, getN xs 28 4, getN xs 32 4, getN xs 36 4, getN xs 40 4⟩
def zeroC : DAscCookie := ⟨0, 0, 0, 0, 0, 0, 0, 0, 0, 0, 0⟩
def tasteC (s me pe now : Int) (C : DAscCookie) : DAscCookie × Int :=
  if fitsC C = false then (zeroC, 1) else if C.xMac ≠ macF s C then (zeroC, 2) else if ¬ (C.xMe = me ∧ C.xPeer = pe) then (zeroC, 3) else if now < C.xMade ∨ C.xMade + 10 < now then (zeroC, 4) else (C, 0)
def tasteF (s me pe now : Int) (xs : List UInt8) : DAscCookie × Int := if xs.length = 44 then tasteC s me pe now (cookieF xs) else (zeroC, 1)
theorem cookieInfo : (Try.prog.info? 49).map (·.size) = some 11 := by kernel_rfl
set_option maxHeartbeats 400000 in
theorem l4Num_any (v : Value) (xs : List UInt8) (a k : Int) (w : World) (hv : RdB w v xs) (hn : xs.length ≤ 4294967296) (ha : a ≤ 9223372036854775807) : Calls Try.prog 112 #[v, .int .i64 a, .int .i64 k] w fun e w' => e = .returned (.int .i64 (getN xs a k)) ∧ w = w' := by
  go_enter Try.func112, Try.ntmps112
  go_wp2_with fail
  refine (specGet_any v xs a k _ hv hn ha).mono ?_
  rintro e w' ⟨rfl, rfl⟩
  generalize hz : getN xs a k = z
  have Hz := Lib.hid hz
  clear hz
  generalize getB xs.length a k = b
  go_wp2
  go_ret
  exact ⟨retI Hz.out.symm, rfl⟩
set_option maxRecDepth 100000 in
set_option maxHeartbeats 8000000 in
theorem specAscTaste_n (s me pe now : Int) (v : Value) (xs : List UInt8) (w : World) (hv : RdB w v xs) (hn : xs.length ≤ 1048576) : Calls Try.prog 48 #[.int .i64 s, .int .i64 me, .int .i64 pe, .int .i64 now, v] w fun e w' => e = .returned (.tuple #[.agg #[.int .i64 (tasteF s me pe now xs).1.xMe, .int .i64 (tasteF s me pe now xs).1.xPeer, .int .i64 (tasteF s me pe now xs).1.xTag, .int .i64 (tasteF s me pe now xs).1.xPeerTag, .int .i64 (tasteF s me pe now xs).1.xTsn, .int .i64 (tasteF s me pe now xs).1.xPeerTsn, .int .i64 (tasteF s me pe now xs).1.xStreams, .int .i64 (tasteF s me pe now xs).1.xMade, .int .i64 (tasteF s me pe now xs).1.xOldTag, .int .i64 (tasteF s me pe now xs).1.xOldPeerTag, .int .i64 (tasteF s me pe now xs).1.xMac], .int .i64 (tasteF s me pe now xs).2]) ∧ Below w.heap.size w w' := by
  have HI := Lib.hid cookieInfo
  have HV := Lib.hid (hv.below ((Below.refl _ _).alloc (Nat.le_refl _) (.cells #[.int .i64 0, .int .i64 0, .int .i64 0, .int .i64 0, .int .i64 0, .int .i64 0, .int .i64 0, .int .i64 0, .int .i64 0, .int .i64 0, .int .i64 0] 49)))
  have R := Lib.hid (Blk.new (w := w) (b := w.heap.size) #[.int .i64 0, .int .i64 0, .int .i64 0, .int .i64 0, .int .i64 0, .int .i64 0, .int .i64 0, .int .i64 0, .int .i64 0, .int .i64 0, .int .i64 0] 49 rfl)
  have HB := Lib.hid ((Below.refl w.heap.size w).alloc (Nat.le_refl _) (.cells #[.int .i64 0, .int .i64 0, .int .i64 0, .int .i64 0, .int .i64 0, .int .i64 0, .int .i64 0, .int .i64 0, .int .i64 0, .int .i64 0, .int .i64 0] 49))
  obtain ⟨A, c, rfl⟩ := hv.slice
  have Hn := Lib.hid hn
  clear hv
  by_cases hl : xs.length = 44
  rotate_left
  · have Hr := Lib.hid (show tasteF s me pe now xs = (zeroC, 1) by unfold tasteF; rw [if_neg hl])
    generalize xs.length = n at *
    have hl' : ((n : Int) != 44) = true := by simp; omega
    clear hn
    go_enter Try.func48, Try.ntmps48
    go_wp2
    refine bodyPost_ret (v := .tuple #[.agg #[.int .i64 0, .int .i64 0, .int .i64 0, .int .i64 0, .int .i64 0, .int .i64 0, .int .i64 0, .int .i64 0, .int .i64 0, .int .i64 0, .int .i64 0], .int .i64 1]) (by simp [results, Try.results48, go_sem]) rfl ⟨by first | (rw [Hr.out]; done) | (rw [Hr.out]; rfl), ?_⟩
    have hbb := HB.out
    (repeat first | with_reducible exact Below.refl _ _ | with_reducible assumption | with_reducible refine Below.setCell ?_ (by first | exact Nat.le_refl _ | (simp; done) | (simp; omega) | omega) _ | with_reducible refine Below.alloc ?_ (by first | exact Nat.le_refl _ | (simp; done) | (simp; omega) | omega) _ | with_reducible refine Below.drew ?_)
  have HX := Lib.hid (show tasteF s me pe now xs = tasteC s me pe now (cookieF xs) by unfold tasteF; rw [if_pos hl])
  have hl' : ((xs.length : Int) != 44) = false := by simp; omega
  clear hn hl
  go_enter Try.func48, Try.ntmps48
  go_wp2_with (first | (go_at_call 112; refine (l4Num_any _ xs _ _ _ HV.out (by have := Hn.out; omega) (by omega)).mono ?_; rintro e w' ⟨rfl, rfl⟩) | (refine wpList_store_new _ rfl 49 (.tmp 12) (.tmp 39) rfl rfl rfl HI.out rfl (by rfl) ?_))
  have HCF := Lib.hid (show cookieF xs = ⟨getN xs 0 4, getN xs 4 4, getN xs 8 4, getN xs 12 4, getN xs 16 4, getN xs 20 4, getN xs 24 4, getN xs 28 4, getN xs 32 4, getN xs 36 4, getN xs 40 4⟩ from rfl)
  generalize getN xs 0 4 = g0 at *
  generalize getN xs 4 4 = g1 at *
  generalize getN xs 8 4 = g2 at *
  generalize getN xs 12 4 = g3 at *
  generalize getN xs 16 4 = g4 at *
  generalize getN xs 20 4 = g5 at *
  generalize getN xs 24 4 = g6 at *
  generalize getN xs 28 4 = g7 at *
  generalize getN xs 32 4 = g8 at *
  generalize getN xs 36 4 = g9 at *
  generalize getN xs 40 4 = g10 at *
  generalize hC : cookieF xs = C at *
  have HC := HCF.out
  subst HC
  obtain ⟨C, hCC⟩ : ∃ C : DAscCookie, C = ⟨g0, g1, g2, g3, g4, g5, g6, g7, g8, g9, g10⟩ := ⟨_, rfl⟩
  have q0 : g0 = C.xMe := by rw [hCC]
  have q1 : g1 = C.xPeer := by rw [hCC]
  have q2 : g2 = C.xTag := by rw [hCC]
  have q3 : g3 = C.xPeerTag := by rw [hCC]
  have q4 : g4 = C.xTsn := by rw [hCC]
  have q5 : g5 = C.xPeerTsn := by rw [hCC]
  have q6 : g6 = C.xStreams := by rw [hCC]
  have q7 : g7 = C.xMade := by rw [hCC]
  have q8 : g8 = C.xOldTag := by rw [hCC]
  have q9 : g9 = C.xOldPeerTag := by rw [hCC]
  have q10 : g10 = C.xMac := by rw [hCC]
  rw [← hCC] at HX
  clear HCF hC hCC hl'
  subst q0
  subst q1
  subst q2
  subst q3
  subst q4
  subst q5
  subst q6
  subst q7
  subst q8
  subst q9
  subst q10
  have K := Lib.hid (Blk.new (w := w.alloc (.cells #[.int .i64 0, .int .i64 0, .int .i64 0, .int .i64 0, .int .i64 0, .int .i64 0, .int .i64 0, .int .i64 0, .int .i64 0, .int .i64 0, .int .i64 0] 49)) (b := w.heap.size + 1) #[.int .i64 C.xMe, .int .i64 C.xPeer, .int .i64 C.xTag, .int .i64 C.xPeerTag, .int .i64 C.xTsn, .int .i64 C.xPeerTsn, .int .i64 C.xStreams, .int .i64 C.xMade, .int .i64 C.xOldTag, .int .i64 C.xOldPeerTag, .int .i64 C.xMac] 49 (by simp))
  replace R := Lib.hid (R.out.alloc (.cells #[.int .i64 C.xMe, .int .i64 C.xPeer, .int .i64 C.xTag, .int .i64 C.xPeerTag, .int .i64 C.xTsn, .int .i64 C.xPeerTsn, .int .i64 C.xStreams, .int .i64 C.xMade, .int .i64 C.xOldTag, .int .i64 C.xOldPeerTag, .int .i64 C.xMac] 49))
  replace HB := Lib.hid (HB.out.alloc HB.out.size (.cells #[.int .i64 C.xMe, .int .i64 C.xPeer, .int .i64 C.xTag, .int .i64 C.xPeerTag, .int .i64 C.xTsn, .int .i64 C.xPeerTsn, .int .i64 C.xStreams, .int .i64 C.xMade, .int .i64 C.xOldTag, .int .i64 C.xOldPeerTag, .int .i64 C.xMac] 49))
  generalize hw2 : World.alloc (World.alloc w _) _ = w2 at *
  clear hw2 HV HI
  have kk0 := K.out.at (i := 0) rfl
  have kk1 := K.out.at (i := 1) rfl
  have kk2 := K.out.at (i := 2) rfl
  have kk3 := K.out.at (i := 3) rfl
  have kk4 := K.out.at (i := 4) rfl
  have kk5 := K.out.at (i := 5) rfl
  have kk6 := K.out.at (i := 6) rfl
  have kk7 := K.out.at (i := 7) rfl
  have kk8 := K.out.at (i := 8) rfl
  have kk9 := K.out.at (i := 9) rfl
  have kk10 := K.out.at (i := 10) rfl
  generalize hcb : w.heap.size + 1 = cb at *
  have Hcbw := Lib.hid hcb
  clear hcb
  refine (l5Fits_any C _).mono ?_
  rintro e w3 ⟨rfl, b3⟩
  replace K := Lib.hid (K.out.keep b3)
  replace R := Lib.hid (R.out.keep b3)
  replace HB := Lib.hid (HB.out.trans (b3.mono HB.out.size))
  clear kk0 kk1 kk2 kk3 kk4 kk5 kk6 kk7 kk8 kk9 kk10
  clear b3
  have HT := Lib.hid (show tasteC s me pe now C = if fitsC C = false then (zeroC, 1) else if C.xMac ≠ macF s C then (zeroC, 2) else if ¬ (C.xMe = me ∧ C.xPeer = pe) then (zeroC, 3) else if now < C.xMade ∨ C.xMade + 10 < now then (zeroC, 4) else (C, 0) from rfl)
  rcases hfit : fitsC C with _ | _
  · have Hr := Lib.hid (show tasteF s me pe now xs = (zeroC, 1) by rw [HX.out, HT.out, if_pos hfit])
    clear hfit HT
    have rk0 := R.out.at (i := 0) rfl
    have rz0 := R.out.frozen 0
    have rk1 := R.out.at (i := 1) rfl
    have rz1 := R.out.frozen 1
    have rk2 := R.out.at (i := 2) rfl
    have rz2 := R.out.frozen 2
    have rk3 := R.out.at (i := 3) rfl
    have rz3 := R.out.frozen 3
    have rk4 := R.out.at (i := 4) rfl
    have rz4 := R.out.frozen 4
    have rk5 := R.out.at (i := 5) rfl
    have rz5 := R.out.frozen 5
    have rk6 := R.out.at (i := 6) rfl
    have rz6 := R.out.frozen 6
    have rk7 := R.out.at (i := 7) rfl
    have rz7 := R.out.frozen 7
    have rk8 := R.out.at (i := 8) rfl
    have rz8 := R.out.frozen 8
    have rk9 := R.out.at (i := 9) rfl
    have rz9 := R.out.frozen 9
    have rk10 := R.out.at (i := 10) rfl
    have rz10 := R.out.frozen 10
    go_wp2
    refine bodyPost_ret (v := .tuple #[.agg #[.int .i64 0, .int .i64 0, .int .i64 0, .int .i64 0, .int .i64 0, .int .i64 0, .int .i64 0, .int .i64 0, .int .i64 0, .int .i64 0, .int .i64 0], .int .i64 1]) (by simp [results, Try.results48, go_sem, rk0, rk1, rk2, rk3, rk4, rk5, rk6, rk7, rk8, rk9, rk10]) rfl ⟨by first | (rw [Hr.out]; done) | (rw [Hr.out]; rfl), ?_⟩
    have hbb := HB.out
    (repeat first | with_reducible exact Below.refl _ _ | with_reducible assumption | with_reducible refine Below.setCell ?_ (by first | exact Nat.le_refl _ | (simp; done) | (simp; omega) | omega) _ | with_reducible refine Below.alloc ?_ (by first | exact Nat.le_refl _ | (simp; done) | (simp; omega) | omega) _ | with_reducible refine Below.drew ?_)
  have Hmd := Lib.hid (show 0 ≤ C.xMade ∧ C.xMade ≤ 1000000 by simp only [fitsC, inB_iff, Bool.and_eq_true] at hfit; omega)
  replace HT := Lib.hid (show tasteC s me pe now C = if C.xMac ≠ macF s C then (zeroC, 2) else if ¬ (C.xMe = me ∧ C.xPeer = pe) then (zeroC, 3) else if now < C.xMade ∨ C.xMade + 10 < now then (zeroC, 4) else (C, 0) by rw [HT.out, if_neg (by rw [hfit]; decide)])
  clear hfit
  have Hcb := Lib.hid K.out.lt
  go_wp2_with fail
  generalize hmc : macF s C = mc at *
  have Hmc := Lib.hid hmc
  clear hmc
  refine wp_region_free 6 (fun y => Below w3.heap.size w3 y) (fun vals i v y f => match i with | 0 => v = .pointer (some ⟨cb, 10, none⟩) ∧ f = [] | 1 => v = .int .i64 C.xMac ∧ f = [] | 2 => v = .int .i64 s ∧ f = [] | 3 => v = .agg #[.int .i64 C.xMe, .int .i64 C.xPeer, .int .i64 C.xTag, .int .i64 C.xPeerTag, .int .i64 C.xTsn, .int .i64 C.xPeerTsn, .int .i64 C.xStreams, .int .i64 C.xMade, .int .i64 C.xOldTag, .int .i64 C.xOldPeerTag, .int .i64 C.xMac] ∧ f = [] | 4 => v = .int .i64 mc ∧ f = [] | 5 => v = .bool (C.xMac != mc) ∧ f = [] | _ => False) (fun i => i) (by kernel_rfl) (by kernel_rfl) (fun _ i v y y' f h hb => by match i, h with | 0, h => exact h | 1, h => exact h | 2, h => exact h | 3, h => exact h | 4, h => exact h | 5, h => exact h) (fun _ _ _ _ _ _ _ _ _ h => h) (Below.refl _ _).drew ?_ ?_
  · intro vals
    simp only [List.take_succ_cons, List.take_zero, Steps]
    refine ⟨?_, ?_, ?_, ?_, ?_, ?_, trivial⟩
    · intro y fp0 hS hd
      try simp only [Act.put, List.setIfInBounds_toArray, List.set_cons_zero, List.set_cons_succ]
      refine FreeUpon.pure (.pointer (some ⟨cb, 10, none⟩)) ?_ ⟨rfl, rfl⟩ hS
      clear hS hd
      go_simp
    · intro y fp0 hS hd
      try simp only [Act.put, List.setIfInBounds_toArray, List.set_cons_zero, List.set_cons_succ]
      have hv0 : vals 0 = .pointer (some ⟨cb, 10, none⟩) := (hd { on := 0, ground := Ground.data } (by simp) (by kernel_rfl)).1.1
      have k10 := (K.out.keep hS).at (i := 10) rfl
      refine FreeUpon.pure (.int .i64 C.xMac) ?_ ⟨rfl, rfl⟩ hS
      simp only [hv0]
      clear hS hd
      go_simp
    · intro y fp0 hS hd
      try simp only [Act.put, List.setIfInBounds_toArray, List.set_cons_zero, List.set_cons_succ]
      refine FreeUpon.pure (.int .i64 s) ?_ ⟨rfl, rfl⟩ hS
      clear hS hd
      go_simp
    · intro y fp0 hS hd
      try simp only [Act.put, List.setIfInBounds_toArray, List.set_cons_zero, List.set_cons_succ]
      have k0 := (K.out.keep hS).at (i := 0) rfl
      have k1 := (K.out.keep hS).at (i := 1) rfl
      have k2 := (K.out.keep hS).at (i := 2) rfl
      have k3 := (K.out.keep hS).at (i := 3) rfl
      have k4 := (K.out.keep hS).at (i := 4) rfl
      have k5 := (K.out.keep hS).at (i := 5) rfl
      have k6 := (K.out.keep hS).at (i := 6) rfl
      have k7 := (K.out.keep hS).at (i := 7) rfl
      have k8 := (K.out.keep hS).at (i := 8) rfl
      have k9 := (K.out.keep hS).at (i := 9) rfl
      have k10 := (K.out.keep hS).at (i := 10) rfl
      refine FreeUpon.pure (.agg #[.int .i64 C.xMe, .int .i64 C.xPeer, .int .i64 C.xTag, .int .i64 C.xPeerTag, .int .i64 C.xTsn, .int .i64 C.xPeerTsn, .int .i64 C.xStreams, .int .i64 C.xMade, .int .i64 C.xOldTag, .int .i64 C.xOldPeerTag, .int .i64 C.xMac]) ?_ ⟨rfl, rfl⟩ hS
      clear hS hd
      go_simp
    · intro y fp0 hS hd
      try simp only [Act.put, List.setIfInBounds_toArray, List.set_cons_zero, List.set_cons_succ]
      have hv2 : vals 2 = .int .i64 s := (hd { on := 2, ground := Ground.data } (by simp) (by kernel_rfl)).1.1
      have hv3 : vals 3 = .agg #[.int .i64 C.xMe, .int .i64 C.xPeer, .int .i64 C.xTag, .int .i64 C.xPeerTag, .int .i64 C.xTsn, .int .i64 C.xPeerTsn, .int .i64 C.xStreams, .int .i64 C.xMade, .int .i64 C.xOldTag, .int .i64 C.xOldPeerTag, .int .i64 C.xMac] := (hd { on := 3, ground := Ground.data } (by simp) (by kernel_rfl)).1.1
      refine FreeUpon.call (g := 99) (args := #[.int .i64 s, .agg #[.int .i64 C.xMe, .int .i64 C.xPeer, .int .i64 C.xTag, .int .i64 C.xPeerTag, .int .i64 C.xTsn, .int .i64 C.xPeerTsn, .int .i64 C.xStreams, .int .i64 C.xMade, .int .i64 C.xOldTag, .int .i64 C.xOldPeerTag, .int .i64 C.xMac]]) ?_ ((specAscMac_r s C y).mono fun e y' ⟨he, h3⟩ => ⟨_, [], he, ⟨by rw [Hmc.out], rfl⟩, Nw.nil _ _, h3, hS.trans (h3.mono hS.size)⟩)
      simp only [hv2, hv3]
      go_simp
    · intro y fp0 hS hd
      try simp only [Act.put, List.setIfInBounds_toArray, List.set_cons_zero, List.set_cons_succ]
      have hv1 : vals 1 = .int .i64 C.xMac := (hd { on := 1, ground := Ground.data } (by simp) (by kernel_rfl)).1.1
      have hv4 : vals 4 = .int .i64 mc := (hd { on := 4, ground := Ground.data } (by simp) (by kernel_rfl)).1.1
      refine FreeUpon.pure (.bool (C.xMac != mc)) ?_ ⟨rfl, rfl⟩ hS
      simp only [hv1, hv4]
      clear hS hd
      go_simp
  · intro vals fp y hS hb hf
    have e0 : vals 0 = .pointer (some ⟨cb, 10, none⟩) := (hf.1 0 (by omega) rfl).1.1
    have e1 : vals 1 = .int .i64 C.xMac := (hf.1 1 (by omega) rfl).1.1
    have e2 : vals 2 = .int .i64 s := (hf.1 2 (by omega) rfl).1.1
    have e3 : vals 3 = .agg #[.int .i64 C.xMe, .int .i64 C.xPeer, .int .i64 C.xTag, .int .i64 C.xPeerTag, .int .i64 C.xTsn, .int .i64 C.xPeerTsn, .int .i64 C.xStreams, .int .i64 C.xMade, .int .i64 C.xOldTag, .int .i64 C.xOldPeerTag, .int .i64 C.xMac] := (hf.1 3 (by omega) rfl).1.1
    have e4 : vals 4 = .int .i64 mc := (hf.1 4 (by omega) rfl).1.1
    have e5 : vals 5 = .bool (C.xMac != mc) := (hf.1 5 (by omega) rfl).1.1
    replace K := Lib.hid (K.out.keep hS)
    replace R := Lib.hid (R.out.keep hS)
    replace HB := Lib.hid (HB.out.trans (hS.mono HB.out.size))
    clear hf hS hb
    simp only [List.take_succ_cons, List.take_zero, List.drop_succ_cons, List.drop_zero, putAll, Act.put, List.setIfInBounds_toArray, List.set_cons_zero, List.set_cons_succ, e0, e1, e2, e3, e4, e5]
    clear e0 e1 e2 e3 e4 e5
    rcases hm : (C.xMac != mc) with _ | _
    rotate_left
    · have hne : C.xMac ≠ mc := by simpa using hm
      have Hr := Lib.hid (show tasteF s me pe now xs = (zeroC, 2) by rw [HX.out, HT.out, if_pos hne])
      clear hm hne HT
      have rk0 := R.out.at (i := 0) rfl
      have rz0 := R.out.frozen 0
      have rk1 := R.out.at (i := 1) rfl
      have rz1 := R.out.frozen 1
      have rk2 := R.out.at (i := 2) rfl
      have rz2 := R.out.frozen 2
      have rk3 := R.out.at (i := 3) rfl
      have rz3 := R.out.frozen 3
      have rk4 := R.out.at (i := 4) rfl
      have rz4 := R.out.frozen 4
      have rk5 := R.out.at (i := 5) rfl
      have rz5 := R.out.frozen 5
      have rk6 := R.out.at (i := 6) rfl
      have rz6 := R.out.frozen 6
      have rk7 := R.out.at (i := 7) rfl
      have rz7 := R.out.frozen 7
      have rk8 := R.out.at (i := 8) rfl
      have rz8 := R.out.frozen 8
      have rk9 := R.out.at (i := 9) rfl
      have rz9 := R.out.frozen 9
      have rk10 := R.out.at (i := 10) rfl
      have rz10 := R.out.frozen 10
      go_wp2
      refine bodyPost_ret (v := .tuple #[.agg #[.int .i64 0, .int .i64 0, .int .i64 0, .int .i64 0, .int .i64 0, .int .i64 0, .int .i64 0, .int .i64 0, .int .i64 0, .int .i64 0, .int .i64 0], .int .i64 2]) (by simp [results, Try.results48, go_sem, rk0, rk1, rk2, rk3, rk4, rk5, rk6, rk7, rk8, rk9, rk10]) rfl ⟨by first | (rw [Hr.out]; done) | (rw [Hr.out]; rfl), ?_⟩
      have hbb := HB.out
      (repeat first | with_reducible exact Below.refl _ _ | with_reducible assumption | with_reducible refine Below.setCell ?_ (by first | exact Nat.le_refl _ | (simp; done) | (simp; omega) | omega) _ | with_reducible refine Below.alloc ?_ (by first | exact Nat.le_refl _ | (simp; done) | (simp; omega) | omega) _ | with_reducible refine Below.drew ?_)
    have heq : ¬ C.xMac ≠ mc := by simpa using hm
    replace HT := Lib.hid (show tasteC s me pe now C = if ¬ (C.xMe = me ∧ C.xPeer = pe) then (zeroC, 3) else if now < C.xMade ∨ C.xMade + 10 < now then (zeroC, 4) else (C, 0) by rw [HT.out, if_neg heq])
    clear hm heq
    by_cases hw : C.xMe = me ∧ C.xPeer = pe
    rotate_left
    · have Hr := Lib.hid (show tasteF s me pe now xs = (zeroC, 3) by rw [HX.out, HT.out, if_pos hw])
      clear HT
      have kc0 := K.out.at (i := 0) rfl
      have kc1 := K.out.at (i := 1) rfl
      have rk0 := R.out.at (i := 0) rfl
      have rz0 := R.out.frozen 0
      have rk1 := R.out.at (i := 1) rfl
      have rz1 := R.out.frozen 1
      have rk2 := R.out.at (i := 2) rfl
      have rz2 := R.out.frozen 2
      have rk3 := R.out.at (i := 3) rfl
      have rz3 := R.out.frozen 3
      have rk4 := R.out.at (i := 4) rfl
      have rz4 := R.out.frozen 4
      have rk5 := R.out.at (i := 5) rfl
      have rz5 := R.out.frozen 5
      have rk6 := R.out.at (i := 6) rfl
      have rz6 := R.out.frozen 6
      have rk7 := R.out.at (i := 7) rfl
      have rz7 := R.out.frozen 7
      have rk8 := R.out.at (i := 8) rfl
      have rz8 := R.out.frozen 8
      have rk9 := R.out.at (i := 9) rfl
      have rz9 := R.out.frozen 9
      have rk10 := R.out.at (i := 10) rfl
      have rz10 := R.out.frozen 10
      by_cases hme : C.xMe = me
      · have hpe : ¬ C.xPeer = pe := fun h => hw ⟨hme, h⟩
        have b0 : (C.xMe != me) = false := by simp [hme]
        have b1 : (C.xPeer != pe) = true := by simp [hpe]
        clear hw hme hpe
        go_wp2
        refine bodyPost_ret (v := .tuple #[.agg #[.int .i64 0, .int .i64 0, .int .i64 0, .int .i64 0, .int .i64 0, .int .i64 0, .int .i64 0, .int .i64 0, .int .i64 0, .int .i64 0, .int .i64 0], .int .i64 3]) (by simp [results, Try.results48, go_sem, rk0, rk1, rk2, rk3, rk4, rk5, rk6, rk7, rk8, rk9, rk10]) rfl ⟨by first | (rw [Hr.out]; done) | (rw [Hr.out]; rfl), ?_⟩
        have hbb := HB.out
        (repeat first | with_reducible exact Below.refl _ _ | with_reducible assumption | with_reducible refine Below.setCell ?_ (by first | exact Nat.le_refl _ | (simp; done) | (simp; omega) | omega) _ | with_reducible refine Below.alloc ?_ (by first | exact Nat.le_refl _ | (simp; done) | (simp; omega) | omega) _ | with_reducible refine Below.drew ?_)
      · have b0 : (C.xMe != me) = true := by simp [hme]
        clear hw hme
        go_wp2
        refine bodyPost_ret (v := .tuple #[.agg #[.int .i64 0, .int .i64 0, .int .i64 0, .int .i64 0, .int .i64 0, .int .i64 0, .int .i64 0, .int .i64 0, .int .i64 0, .int .i64 0, .int .i64 0], .int .i64 3]) (by simp [results, Try.results48, go_sem, rk0, rk1, rk2, rk3, rk4, rk5, rk6, rk7, rk8, rk9, rk10]) rfl ⟨by first | (rw [Hr.out]; done) | (rw [Hr.out]; rfl), ?_⟩
        have hbb := HB.out
        (repeat first | with_reducible exact Below.refl _ _ | with_reducible assumption | with_reducible refine Below.setCell ?_ (by first | exact Nat.le_refl _ | (simp; done) | (simp; omega) | omega) _ | with_reducible refine Below.alloc ?_ (by first | exact Nat.le_refl _ | (simp; done) | (simp; omega) | omega) _ | with_reducible refine Below.drew ?_)
    have b0 : (C.xMe != me) = false := by simp [hw.1]
    have b1 : (C.xPeer != pe) = false := by simp [hw.2]
    replace HT := Lib.hid (show tasteC s me pe now C = if now < C.xMade ∨ C.xMade + 10 < now then (zeroC, 4) else (C, 0) by rw [HT.out, if_neg (fun h => h hw)])
    clear hw
    have hmd := Hmd.out
    have kc0 := K.out.at (i := 0) rfl
    have kc1 := K.out.at (i := 1) rfl
    have kc7 := K.out.at (i := 7) rfl
    by_cases ht : now < C.xMade ∨ C.xMade + 10 < now
    · have Hr := Lib.hid (show tasteF s me pe now xs = (zeroC, 4) by rw [HX.out, HT.out, if_pos ht])
      clear HT
      have rk0 := R.out.at (i := 0) rfl
      have rz0 := R.out.frozen 0
      have rk1 := R.out.at (i := 1) rfl
      have rz1 := R.out.frozen 1
      have rk2 := R.out.at (i := 2) rfl
      have rz2 := R.out.frozen 2
      have rk3 := R.out.at (i := 3) rfl
      have rz3 := R.out.frozen 3
      have rk4 := R.out.at (i := 4) rfl
      have rz4 := R.out.frozen 4
      have rk5 := R.out.at (i := 5) rfl
      have rz5 := R.out.frozen 5
      have rk6 := R.out.at (i := 6) rfl
      have rz6 := R.out.frozen 6
      have rk7 := R.out.at (i := 7) rfl
      have rz7 := R.out.frozen 7
      have rk8 := R.out.at (i := 8) rfl
      have rz8 := R.out.frozen 8
      have rk9 := R.out.at (i := 9) rfl
      have rz9 := R.out.frozen 9
      have rk10 := R.out.at (i := 10) rfl
      have rz10 := R.out.frozen 10
      by_cases ht1 : now < C.xMade
      · clear ht
        go_wp2
        refine bodyPost_ret (v := .tuple #[.agg #[.int .i64 0, .int .i64 0, .int .i64 0, .int .i64 0, .int .i64 0, .int .i64 0, .int .i64 0, .int .i64 0, .int .i64 0, .int .i64 0, .int .i64 0], .int .i64 4]) (by simp [results, Try.results48, go_sem, rk0, rk1, rk2, rk3, rk4, rk5, rk6, rk7, rk8, rk9, rk10]) rfl ⟨by first | (rw [Hr.out]; done) | (rw [Hr.out]; rfl), ?_⟩
        have hbb := HB.out
        (repeat first | with_reducible exact Below.refl _ _ | with_reducible assumption | with_reducible refine Below.setCell ?_ (by first | exact Nat.le_refl _ | (simp; done) | (simp; omega) | omega) _ | with_reducible refine Below.alloc ?_ (by first | exact Nat.le_refl _ | (simp; done) | (simp; omega) | omega) _ | with_reducible refine Below.drew ?_)
      · have ht2 : C.xMade + 10 < now := ht.resolve_left ht1
        clear ht
        go_wp2
        refine bodyPost_ret (v := .tuple #[.agg #[.int .i64 0, .int .i64 0, .int .i64 0, .int .i64 0, .int .i64 0, .int .i64 0, .int .i64 0, .int .i64 0, .int .i64 0, .int .i64 0, .int .i64 0], .int .i64 4]) (by simp [results, Try.results48, go_sem, rk0, rk1, rk2, rk3, rk4, rk5, rk6, rk7, rk8, rk9, rk10]) rfl ⟨by first | (rw [Hr.out]; done) | (rw [Hr.out]; rfl), ?_⟩
        have hbb := HB.out
        (repeat first | with_reducible exact Below.refl _ _ | with_reducible assumption | with_reducible refine Below.setCell ?_ (by first | exact Nat.le_refl _ | (simp; done) | (simp; omega) | omega) _ | with_reducible refine Below.alloc ?_ (by first | exact Nat.le_refl _ | (simp; done) | (simp; omega) | omega) _ | with_reducible refine Below.drew ?_)
    · have Hr := Lib.hid (show tasteF s me pe now xs = (C, 0) by rw [HX.out, HT.out, if_neg ht])
      have ht1 : ¬ now < C.xMade := fun h => ht (.inl h)
      have ht2 : ¬ C.xMade + 10 < now := fun h => ht (.inr h)
      clear HT ht kc0 kc1 kc7
      have rk0 := R.out.at (i := 0) rfl
      have rz0 := R.out.frozen 0
      have rk1 := R.out.at (i := 1) rfl
      have rz1 := R.out.frozen 1
      have rk2 := R.out.at (i := 2) rfl
      have rz2 := R.out.frozen 2
      have rk3 := R.out.at (i := 3) rfl
      have rz3 := R.out.frozen 3
      have rk4 := R.out.at (i := 4) rfl
      have rz4 := R.out.frozen 4
      have rk5 := R.out.at (i := 5) rfl
      have rz5 := R.out.frozen 5
      have rk6 := R.out.at (i := 6) rfl
      have rz6 := R.out.frozen 6
      have rk7 := R.out.at (i := 7) rfl
      have rz7 := R.out.frozen 7
      have rk8 := R.out.at (i := 8) rfl
      have rz8 := R.out.frozen 8
      have rk9 := R.out.at (i := 9) rfl
      have rz9 := R.out.frozen 9
      have rk10 := R.out.at (i := 10) rfl
      have rz10 := R.out.frozen 10
      have ck0 := K.out.at (i := 0) rfl
      have ck1 := K.out.at (i := 1) rfl
      have ck2 := K.out.at (i := 2) rfl
      have ck3 := K.out.at (i := 3) rfl
      have ck4 := K.out.at (i := 4) rfl
      have ck5 := K.out.at (i := 5) rfl
      have ck6 := K.out.at (i := 6) rfl
      have ck7 := K.out.at (i := 7) rfl
      have ck8 := K.out.at (i := 8) rfl
      have ck9 := K.out.at (i := 9) rfl
      have ck10 := K.out.at (i := 10) rfl
      go_wp2
      refine bodyPost_ret (v := .tuple #[.agg #[.int .i64 C.xMe, .int .i64 C.xPeer, .int .i64 C.xTag, .int .i64 C.xPeerTag, .int .i64 C.xTsn, .int .i64 C.xPeerTsn, .int .i64 C.xStreams, .int .i64 C.xMade, .int .i64 C.xOldTag, .int .i64 C.xOldPeerTag, .int .i64 C.xMac], .int .i64 0]) (by simp [results, Try.results48, go_sem, rk0, rk1, rk2, rk3, rk4, rk5, rk6, rk7, rk8, rk9, rk10]) rfl ⟨by first | (rw [Hr.out]; done) | (rw [Hr.out]; rfl), ?_⟩
      have hbb := HB.out
      (repeat first | with_reducible exact Below.refl _ _ | with_reducible assumption | with_reducible refine Below.setCell ?_ (by first | exact Nat.le_refl _ | (simp; done) | (simp; omega) | omega) _ | with_reducible refine Below.alloc ?_ (by first | exact Nat.le_refl _ | (simp; done) | (simp; omega) | omega) _ | with_reducible refine Below.drew ?_)
end Go.Proofs.Ytbceikhmoblacaa
