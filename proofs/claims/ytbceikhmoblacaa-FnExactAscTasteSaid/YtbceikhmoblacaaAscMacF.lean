/-
  AscMac of the program and of the model, over one plain function of a cookie. (Written by wip/tools/genascmac.py.)
-/
import Derived.Test.YtbceikhmoblacaaAscMac
namespace Go.Proofs.Ytbceikhmoblacaa
open Go.ChangeShapes Go.WideShapes Go.ChangeAt Go.RowKit
set_option linter.unusedVariables false
set_option linter.unusedSimpArgs false

def fieldsF (x : DAscCookie) : List Int := [x.xMe, x.xPeer, x.xTag, x.xPeerTag, x.xTsn, x.xPeerTsn, x.xStreams, x.xMade, x.xOldTag, x.xOldPeerTag]
def macF (s : Int) (x : DAscCookie) : Int := mixF (mixL (mixF 0 s) (fieldsF x)) s
theorem Blk.rdI {w : World} {b : Nat} {vs : List Value} (h : Blk w b vs) (ns : List Int) (hv : vs = ns.map itv) (n c : Nat) (hn : ns.length = n) (hc : n ≤ c ∧ c ≤ 4294967296) : RdI w (.slice (some ⟨b, 0, none⟩) n c) ns := by
  subst hn hv
  refine ⟨some ⟨b, 0, none⟩, c, rfl, ⟨hc.1, by unfold maxLen; omega⟩, fun j x hj => ⟨_, rfl, ?_⟩⟩
  rw [add_zero_blk]
  exact h.at (by rw [List.getElem?_map, hj]; rfl)
set_option maxHeartbeats 400000 in
theorem l5Fields_r (x : DAscCookie) (w : World) : Calls Try.prog 98 #[.agg #[.int .i64 x.xMe, .int .i64 x.xPeer, .int .i64 x.xTag, .int .i64 x.xPeerTag, .int .i64 x.xTsn, .int .i64 x.xPeerTsn, .int .i64 x.xStreams, .int .i64 x.xMade, .int .i64 x.xOldTag, .int .i64 x.xOldPeerTag, .int .i64 x.xMac]] w fun e w' => ∃ v, e = .returned v ∧ RdI w' v (fieldsF x) ∧ Below w.heap.size w w' := by
  have K := Lib.hid (Blk.new (w := w.alloc (.cells #[.int .i64 x.xMe, .int .i64 x.xPeer, .int .i64 x.xTag, .int .i64 x.xPeerTag, .int .i64 x.xTsn, .int .i64 x.xPeerTsn, .int .i64 x.xStreams, .int .i64 x.xMade, .int .i64 x.xOldTag, .int .i64 x.xOldPeerTag, .int .i64 x.xMac] 49)) (b := w.heap.size + 1) #[.int .i64 x.xMe, .int .i64 x.xPeer, .int .i64 x.xTag, .int .i64 x.xPeerTag, .int .i64 x.xTsn, .int .i64 x.xPeerTsn, .int .i64 x.xStreams, .int .i64 x.xMade, .int .i64 x.xOldTag, .int .i64 x.xOldPeerTag] 3 (by simp))
  go_enter Try.func98, Try.ntmps98
  go_wp2
  refine bodyPost_ret (v := .slice (some ⟨w.heap.size + 1, 0, none⟩) 10 10) (by simp [results, Try.results98, go_sem]) rfl ⟨_, rfl, K.out.rdI (fieldsF x) rfl 10 10 rfl ⟨by omega, by omega⟩, ?_⟩
  repeat first | with_reducible exact Below.refl _ _ | with_reducible assumption | with_reducible refine Below.setCell ?_ (by simp <;> omega) _ | with_reducible refine Below.alloc ?_ (by simp <;> omega) _ | with_reducible refine Below.drew ?_
set_option maxHeartbeats 400000 in
theorem ascFields_r (x : DAscCookie) (w : World) : Calls Try.prog 101 #[.agg #[.int .i64 x.xMe, .int .i64 x.xPeer, .int .i64 x.xTag, .int .i64 x.xPeerTag, .int .i64 x.xTsn, .int .i64 x.xPeerTsn, .int .i64 x.xStreams, .int .i64 x.xMade, .int .i64 x.xOldTag, .int .i64 x.xOldPeerTag, .int .i64 x.xMac]] w fun e w' => e = .returned (.agg #[.int .i64 x.xMe, .int .i64 x.xPeer, .int .i64 x.xTag, .int .i64 x.xPeerTag, .int .i64 x.xTsn, .int .i64 x.xPeerTsn, .int .i64 x.xStreams, .int .i64 x.xMade, .int .i64 x.xOldTag, .int .i64 x.xOldPeerTag]) ∧ Below w.heap.size w w' := by
  go_enter Try.func101, Try.ntmps101
  go_wp2
  refine bodyPost_ret (v := .agg #[.int .i64 x.xMe, .int .i64 x.xPeer, .int .i64 x.xTag, .int .i64 x.xPeerTag, .int .i64 x.xTsn, .int .i64 x.xPeerTsn, .int .i64 x.xStreams, .int .i64 x.xMade, .int .i64 x.xOldTag, .int .i64 x.xOldPeerTag]) (by simp [results, Try.results101, go_sem]) rfl ⟨rfl, ?_⟩
  repeat first | with_reducible exact Below.refl _ _ | with_reducible assumption | with_reducible refine Below.setCell ?_ (by simp <;> omega) _ | with_reducible refine Below.alloc ?_ (by simp <;> omega) _ | with_reducible refine Below.drew ?_
set_option maxHeartbeats 800000 in
theorem specAscMac_r (s : Int) (x : DAscCookie) (w : World) : Calls Try.prog 99 #[.int .i64 s, .agg #[.int .i64 x.xMe, .int .i64 x.xPeer, .int .i64 x.xTag, .int .i64 x.xPeerTag, .int .i64 x.xTsn, .int .i64 x.xPeerTsn, .int .i64 x.xStreams, .int .i64 x.xMade, .int .i64 x.xOldTag, .int .i64 x.xOldPeerTag, .int .i64 x.xMac]] w fun e w' => e = .returned (.int .i64 (macF s x)) ∧ Below w.heap.size w w' := by
  have HB := Lib.hid ((Below.refl w.heap.size w).alloc (Nat.le_refl _) (.cells #[.int .i64 x.xMe, .int .i64 x.xPeer, .int .i64 x.xTag, .int .i64 x.xPeerTag, .int .i64 x.xTsn, .int .i64 x.xPeerTsn, .int .i64 x.xStreams, .int .i64 x.xMade, .int .i64 x.xOldTag, .int .i64 x.xOldPeerTag, .int .i64 x.xMac] 49))
  have Hm := Lib.hid (show macF s x = mixF (mixL (mixF 0 s) (fieldsF x)) s from rfl)
  have hb0 := mix_bd 0 s
  generalize macF s x = r at *
  generalize hx0 : mixF 0 s = x0 at *
  have Hx0 := Lib.hid hx0
  clear hx0
  go_enter Try.func99, Try.ntmps99
  go_wp2_with (go_at_call 164; refine (l5Mix_any _ _ _ ⟨by omega, by omega⟩).mono ?_; rintro e w' ⟨rfl, rfl⟩; rw [Hx0.out])
  refine (l5Fields_r x _).mono ?_
  rintro e w1 ⟨v, rfl, hv, b1⟩
  have HB := Lib.hid (HB.out.trans (b1.mono HB.out.size))
  clear b1
  obtain ⟨A, c, rfl⟩ := hv.slice
  have hc := hv.cap
  have Hv := Lib.hid hv
  clear hv
  generalize fieldsF x = ns at *
  generalize hl : ns.length = l at *
  have Hl := Lib.hid hl
  clear hl
  go_wp2
  go_loop [5, 7] (fun q i => ∃ j : Nat, j ≤ l ∧ i = .int .i64 j ∧ q = .int .i64 (mixL x0 (ns.take j))) (fun _ i => l - (intOf i).toNat)
  case atStart => exact ⟨0, by omega, rfl, rfl⟩
  case round =>
    obtain ⟨j, hj, rfl, rfl⟩ := hrel
    have hb := mixL_bd x0 (ns.take j) hb0
    by_cases hlt : j < l
    · obtain ⟨ad, hk, rfl, hcell⟩ := Hv.out.at_ hlt
      have Hs := Lib.hid (mixL_succ (x := x0) hk)
      generalize mixL x0 (ns.take j) = q at *
      generalize hz : mixF q ns[j] = z at *
      have Hz := Lib.hid hz
      clear hz
      go_wp2_with (go_at_call 164; refine (l5Mix_any _ _ _ ⟨by omega, by omega⟩).mono ?_; rintro e w' ⟨rfl, rfl⟩; rw [Hz.out])
      exact ⟨⟨j + 1, by omega, by go_num, congrArg _ Hs.out.symm⟩, by simp [intOf]; omega⟩
    · have : j = l := by omega
      subst this
      have Hx := Lib.hid (List.take_of_length_le (l := ns) (i := j) (by rw [Hl.out]; omega))
      generalize hq : mixL x0 (ns.take j) = q at *
      have Hq := Lib.hid hq
      clear hq
      go_wp2_with (go_at_call 164; refine (l5Mix_any _ _ _ ⟨by omega, by omega⟩).mono ?_; rintro e w' ⟨rfl, rfl⟩)
      go_ret
      exact ⟨retI (by rw [Hm.out, ← Hq.out, Hx.out]), HB.out⟩
set_option maxHeartbeats 800000 in
theorem implAscMac_r (s : Int) (x : DAscCookie) (w : World) : Calls Try.prog 103 #[.int .i64 s, .agg #[.int .i64 x.xMe, .int .i64 x.xPeer, .int .i64 x.xTag, .int .i64 x.xPeerTag, .int .i64 x.xTsn, .int .i64 x.xPeerTsn, .int .i64 x.xStreams, .int .i64 x.xMade, .int .i64 x.xOldTag, .int .i64 x.xOldPeerTag, .int .i64 x.xMac]] w fun e w' => e = .returned (.int .i64 (macF s x)) ∧ Below w.heap.size w w' := by
  have HB := Lib.hid ((Below.refl w.heap.size w).alloc (Nat.le_refl _) (.cells #[.int .i64 x.xMe, .int .i64 x.xPeer, .int .i64 x.xTag, .int .i64 x.xPeerTag, .int .i64 x.xTsn, .int .i64 x.xPeerTsn, .int .i64 x.xStreams, .int .i64 x.xMade, .int .i64 x.xOldTag, .int .i64 x.xOldPeerTag, .int .i64 x.xMac] 49))
  have Hm := Lib.hid (show macF s x = mixF (mixL (mixF 0 s) (fieldsF x)) s from rfl)
  have hb0 := mix_bd 0 s
  have H1 := Lib.hid (show ∀ q t, mixL q [t] = mixF q t from fun _ _ => rfl)
  generalize macF s x = r at *
  go_enter Try.func103, Try.ntmps103
  go_wp2_with fail
  refine (ascFields_r x _).mono ?_
  rintro e w1 ⟨rfl, b1⟩
  have K := Lib.hid (Blk.new (w := w1) (b := w1.heap.size) #[.int .i64 x.xMe, .int .i64 x.xPeer, .int .i64 x.xTag, .int .i64 x.xPeerTag, .int .i64 x.xTsn, .int .i64 x.xPeerTsn, .int .i64 x.xStreams, .int .i64 x.xMade, .int .i64 x.xOldTag, .int .i64 x.xOldPeerTag] 137 rfl)
  have HB := Lib.hid (HB.out.trans (b1.mono HB.out.size))
  clear b1
  have K1 := Lib.hid (Blk.new (w := w1.alloc (.cells #[.int .i64 x.xMe, .int .i64 x.xPeer, .int .i64 x.xTag, .int .i64 x.xPeerTag, .int .i64 x.xTsn, .int .i64 x.xPeerTsn, .int .i64 x.xStreams, .int .i64 x.xMade, .int .i64 x.xOldTag, .int .i64 x.xOldPeerTag] 137)) (b := w1.heap.size + 1) #[.int .i64 s] 3 (by simp))
  have K := Lib.hid (K.out.alloc (.cells #[.int .i64 s] 3))
  have HB := Lib.hid ((HB.out.alloc HB.out.size (.cells #[.int .i64 x.xMe, .int .i64 x.xPeer, .int .i64 x.xTag, .int .i64 x.xPeerTag, .int .i64 x.xTsn, .int .i64 x.xPeerTsn, .int .i64 x.xStreams, .int .i64 x.xMade, .int .i64 x.xOldTag, .int .i64 x.xOldPeerTag] 137)).alloc (Nat.le_trans HB.out.size (by simp)) (.cells #[.int .i64 s] 3))
  go_wp2_with fail
  refine (ascTakeIn_any _ _ [s] _ ⟨by omega, by omega⟩ (K1.out.rdI [s] rfl 1 1 rfl ⟨by omega, by omega⟩)).mono ?_
  rintro e w' ⟨rfl, rfl⟩
  rw [H1.out]
  generalize hx0 : mixF 0 s = x0 at *
  have Hx0 := Lib.hid hx0
  clear hx0 K1
  have hb1 := mixL_bd x0 (fieldsF x) hb0
  go_wp2_with fail
  refine (ascTakeIn_any _ _ (fieldsF x) _ hb0 (K.out.rdI (fieldsF x) rfl 10 10 rfl ⟨by omega, by omega⟩)).mono ?_
  rintro e w' ⟨rfl, rfl⟩
  clear K
  generalize hx1 : mixL x0 (fieldsF x) = x1 at *
  have Hx1 := Lib.hid hx1
  clear hx1
  generalize hwv : World.alloc _ (Obj.cells #[Value.int IntKind.i64 s] 3) = wv at *
  have K2 := Lib.hid (Blk.new (w := wv) (b := wv.heap.size) #[.int .i64 s] 3 rfl)
  have HB := Lib.hid (HB.out.alloc HB.out.size (.cells #[.int .i64 s] 3))
  clear hwv
  go_wp2_with fail
  refine (ascTakeIn_any _ _ [s] _ hb1 (K2.out.rdI [s] rfl 1 1 rfl ⟨by omega, by omega⟩)).mono ?_
  rintro e w' ⟨rfl, rfl⟩
  rw [H1.out]
  generalize hx2 : mixF x1 s = x2 at *
  have Hx2 := Lib.hid hx2
  clear hx2 K2
  go_wp2
  go_ret
  exact ⟨retI (by rw [Hm.out]), HB.out⟩
end Go.Proofs.Ytbceikhmoblacaa
