/-
  AscTick of the model. (Written by wip/tools/gentick.py.)
-/
import Derived.Test.YthdjjgbjemaabaaTickF
namespace Go.Proofs.Ythdjjgbjemaabaa
open Go.ChangeShapes Go.WideShapes Go.ChangeAt Go.RowKit
set_option linter.unusedVariables false
set_option linter.unusedSimpArgs false

set_option maxRecDepth 100000 in
set_option maxHeartbeats 4000000 in
theorem specAscTick_p (cs : List Value) (x : DAscEnd) (w : World) (h : FAscEnd w cs x) (hz : zAscEnd x ≤ 1048576) : Calls Try.prog 59 #[.agg cs.toArray] w (LinePost w (tickE x) (tickP x) (tickK x)) := by
  have HF := Lib.hid h
  obtain ⟨vk, rfl, h11⟩ := h
  clear h11
  have Hz := Lib.hid (show x.xCookie.length ≤ 1048576 from hz)
  clear hz
  have H_n := Lib.hid (fun h => tick_n (x := x) h)
  have H_0 := Lib.hid (fun h => tick_0 (x := x) h)
  have H_l := Lib.hid (fun h => tick_l (x := x) h)
  have H_g := Lib.hid (fun h => tick_g (x := x) h)
  have H_q := Lib.hid (fun h => tick_q (x := x) h)
  have H_a := Lib.hid (fun h => tick_a (x := x) h)
  generalize tickE x = sE at *
  generalize tickP x = sP at *
  generalize tickK x = sK at *
  have K := Lib.hid ((Blk.new (w := w) (b := w.heap.size) #[.int .i64 x.xMe, .int .i64 x.xPeer, .int .i64 x.xSecret, .int .i64 x.xWish, .int .i64 x.xLast, .int .i64 x.xState, .int .i64 x.xTag, .int .i64 x.xPeerTag, .int .i64 x.xTsn, .int .i64 x.xPeerTsn, .int .i64 x.xStreams, vk, .int .i64 x.xTries, .int .i64 x.xLeft] 67 rfl).alloc (.cells #[.int .i64 0, .int .i64 0, .int .i64 0, .int .i64 0, .int .i64 0, .int .i64 0, .int .i64 0, .int .i64 0, .int .i64 0, .int .i64 0, .int .i64 0, .slice none 0 0, .int .i64 0, .int .i64 0] 67))
  have R := Lib.hid (Blk.new (w := (w.alloc (.cells #[.int .i64 x.xMe, .int .i64 x.xPeer, .int .i64 x.xSecret, .int .i64 x.xWish, .int .i64 x.xLast, .int .i64 x.xState, .int .i64 x.xTag, .int .i64 x.xPeerTag, .int .i64 x.xTsn, .int .i64 x.xPeerTsn, .int .i64 x.xStreams, vk, .int .i64 x.xTries, .int .i64 x.xLeft] 67))) (b := w.heap.size + 1) #[.int .i64 0, .int .i64 0, .int .i64 0, .int .i64 0, .int .i64 0, .int .i64 0, .int .i64 0, .int .i64 0, .int .i64 0, .int .i64 0, .int .i64 0, .slice none 0 0, .int .i64 0, .int .i64 0] 67 (by simp))
  have HB := Lib.hid (((Below.refl w.heap.size w).alloc (Nat.le_refl _) (.cells #[.int .i64 x.xMe, .int .i64 x.xPeer, .int .i64 x.xSecret, .int .i64 x.xWish, .int .i64 x.xLast, .int .i64 x.xState, .int .i64 x.xTag, .int .i64 x.xPeerTag, .int .i64 x.xTsn, .int .i64 x.xPeerTsn, .int .i64 x.xStreams, vk, .int .i64 x.xTries, .int .i64 x.xLeft] 67)).alloc (by simp) (.cells #[.int .i64 0, .int .i64 0, .int .i64 0, .int .i64 0, .int .i64 0, .int .i64 0, .int .i64 0, .int .i64 0, .int .i64 0, .int .i64 0, .int .i64 0, .slice none 0 0, .int .i64 0, .int .i64 0] 67))
  have Z0 := Lib.hid (show w.heap.size + 2 = ((w.alloc (.cells #[.int .i64 x.xMe, .int .i64 x.xPeer, .int .i64 x.xSecret, .int .i64 x.xWish, .int .i64 x.xLast, .int .i64 x.xState, .int .i64 x.xTag, .int .i64 x.xPeerTag, .int .i64 x.xTsn, .int .i64 x.xPeerTsn, .int .i64 x.xStreams, vk, .int .i64 x.xTries, .int .i64 x.xLeft] 67)).alloc (.cells #[.int .i64 0, .int .i64 0, .int .i64 0, .int .i64 0, .int .i64 0, .int .i64 0, .int .i64 0, .int .i64 0, .int .i64 0, .int .i64 0, .int .i64 0, .slice none 0 0, .int .i64 0, .int .i64 0] 67)).heap.size by simp)
  go_enter Try.func59, Try.ntmps59
  go_wp2_with (refine wpList_load_blk rfl 67 (.tmp 1) rfl K.out rfl _ Try.underlying67 rfl isz_AscEnd ?_)
  refine (specAscEndOk_r _ x _ (HF.out.below HB.out)).mono ?_
  rintro e w1 ⟨rfl, b1⟩
  replace K := Lib.hid (K.out.keep b1)
  replace R := Lib.hid (R.out.keep b1)
  replace HB := Lib.hid (HB.out.trans (b1.mono HB.out.size))
  have Z1 := Lib.hid (show w.heap.size + 2 ≤ w1.heap.size by have := b1.size; have := Z0.out; omega)
  clear b1
  rcases hok : ascOk x with _ | _
  · skip
    obtain ⟨he, hp, hk⟩ := H_n.out hok
    have HE := Lib.hid he
    have HP := Lib.hid hp
    have HK := Lib.hid hk
    clear he hp hk
    go_wp2_with fail
    refine (l6None_n _).mono ?_
    rintro e w2 ⟨v', f, rfl, o2, n2, b2⟩
    have O2 := Lib.hid o2
    have N2 := Lib.hid n2
    replace R := Lib.hid (R.out.keep b2)
    replace HB := Lib.hid (HB.out.trans (b2.mono HB.out.size))
    clear o2 n2 b2
    go_wp2_with (refine wpList_store_blk rfl 67 (.tmp 2) (.tmp 9) rfl R.out _ rfl rfl rfl isz_AscEnd (by kernel_rfl) ?_; intro w9 kk9 ff9 ss9)
    refine bodyPost_ret (v := .tuple #[.agg #[.int .i64 0, .int .i64 0, .int .i64 0, .int .i64 0, .int .i64 0, .int .i64 0, .int .i64 0, .int .i64 0, .int .i64 0, .int .i64 0, .int .i64 0, .slice none 0 0, .int .i64 0, .int .i64 0], v', .int .i64 0]) (results_row3 rfl rfl rfl rfl (load_blk 67 kk9 _ Try.underlying67 rfl isz_AscEnd)) rfl ?_
    refine ⟨_, v', [], f, by rw [HK.out], by rw [HE.out]; exact EAscEnd.nil _ zeroEnd rfl, by rw [HP.out]; exact OwL.frl EFrmPacket.framed EFrmPacket.inside O2.out ff9 (fun b hb => by have := (N2.out.2 b hb).1; have := Z1.out; simp; omega), ?_, below_frl1 HB.out (Nat.le_refl _) ff9 (by omega)⟩
    rw [List.nil_append, ss9]
    exact N2.out.mono (by have := Z1.out; omega) (Nat.le_refl _)
  go_wp2_with (refine wpList_load_blk rfl 67 (.tmp 1) rfl K.out rfl _ Try.underlying67 rfl isz_AscEnd ?_)
  refine (l6Copy_n _ x _ (HF.out.below HB.out) Hz.out).mono ?_
  rintro e w2 ⟨cx, gx, rfl, ex, nx, b2⟩
  obtain ⟨vx, gx', rfl, ox, hgx⟩ := ex
  obtain rfl := hgx
  obtain ⟨B, d, rfl⟩ := ox.rd.slice
  have NX := Lib.hid (nx.mono (lo' := w.heap.size + 2) Z1.out (Nat.le_refl _))
  have Rw := Lib.hid (R.out.keep b2)
  have OXw := Lib.hid ox
  have HBw := Lib.hid (HB.out.trans (b2.mono HB.out.size))
  have Z2 := Lib.hid (show w.heap.size + 2 ≤ w2.heap.size from Nat.le_trans Z1.out b2.size)
  have Hok := Lib.hid hok
  clear ox nx b2 Z0 R HB hok
  by_cases h0 : x.xLeft = 0
  · skip
    obtain ⟨he, hp, hk⟩ := H_0.out Hok.out h0
    have HE := Lib.hid he
    have HP := Lib.hid hp
    have HK := Lib.hid hk
    clear he hp hk
    have q0 : (x.xLeft == 0) = true := by rw [h0]; rfl
    clear h0
    have bS := (Below.refl w2.heap.size w2).alloc (Nat.le_refl _) (.cells #[.int .i64 x.xMe, .int .i64 x.xPeer, .int .i64 x.xSecret, .int .i64 x.xWish, .int .i64 x.xLast, .int .i64 x.xState, .int .i64 x.xTag, .int .i64 x.xPeerTag, .int .i64 x.xTsn, .int .i64 x.xPeerTsn, .int .i64 x.xStreams, .slice B x.xCookie.length d, .int .i64 x.xTries, .int .i64 x.xLeft] 67)
    have X := Lib.hid (Blk.new (w := w2) (b := w2.heap.size) #[.int .i64 x.xMe, .int .i64 x.xPeer, .int .i64 x.xSecret, .int .i64 x.xWish, .int .i64 x.xLast, .int .i64 x.xState, .int .i64 x.xTag, .int .i64 x.xPeerTag, .int .i64 x.xTsn, .int .i64 x.xPeerTsn, .int .i64 x.xStreams, .slice B x.xCookie.length d, .int .i64 x.xTries, .int .i64 x.xLeft] 67 rfl)
    have R := Lib.hid (Rw.out.keep bS)
    have OX := Lib.hid (OXw.out.below bS)
    have HB := Lib.hid (HBw.out.trans (bS.mono (by have := Z2.out; omega)))
    have ZW := Lib.hid (show w2.heap.size + 1 ≤ (w2.alloc (.cells #[.int .i64 x.xMe, .int .i64 x.xPeer, .int .i64 x.xSecret, .int .i64 x.xWish, .int .i64 x.xLast, .int .i64 x.xState, .int .i64 x.xTag, .int .i64 x.xPeerTag, .int .i64 x.xTsn, .int .i64 x.xPeerTsn, .int .i64 x.xStreams, .slice B x.xCookie.length d, .int .i64 x.xTries, .int .i64 x.xLeft] 67)).heap.size by simp)
    clear bS
    go_wp2_with (refine wpList_store_new _ rfl 67 (.tmp 5) (.tmp 12) rfl rfl rfl isz_AscEnd rfl (by kernel_rfl) ?_)
    clear q0
    clear K
    generalize hw3 : World.alloc w2 (.cells #[.int .i64 x.xMe, .int .i64 x.xPeer, .int .i64 x.xSecret, .int .i64 x.xWish, .int .i64 x.xLast, .int .i64 x.xState, .int .i64 x.xTag, .int .i64 x.xPeerTag, .int .i64 x.xTsn, .int .i64 x.xPeerTsn, .int .i64 x.xStreams, .slice B x.xCookie.length d, .int .i64 x.xTries, .int .i64 x.xLeft] 67) = w3 at *
    clear hw3
    refine wp_region_free 2 (fun y => Below w3.heap.size w3 y) (fun vals i v y f => match i with | 0 => v = .agg #[.int .i64 x.xMe, .int .i64 x.xPeer, .int .i64 x.xSecret, .int .i64 x.xWish, .int .i64 x.xLast, .int .i64 x.xState, .int .i64 x.xTag, .int .i64 x.xPeerTag, .int .i64 x.xTsn, .int .i64 x.xPeerTsn, .int .i64 x.xStreams, .slice B x.xCookie.length d, .int .i64 x.xTries, .int .i64 x.xLeft] ∧ f = [] | 1 => OwL 195 4 EFrmPacket y f v [] | _ => False) (fun i => i) (by kernel_rfl) (by kernel_rfl) ?_ ?_ (Below.refl _ _).drew ?_ ?_
    · intro _ i v y y' f h hb
      match i, h with
      | 0, h => exact h
      | 1, h => exact OwL.below EFrmPacket.framed EFrmPacket.inside h hb
    · intro vals vals' i o v y f ho hd h
      match i, h with
      | 0, h => exact h
      | 1, h => exact h
    · intro vals
      simp only [List.take_succ_cons, List.take_zero, Steps]
      refine ⟨?_, ?_, trivial⟩
      · intro y fp0 hS hd
        try simp only [Act.put, List.setIfInBounds_toArray, List.set_cons_zero, List.set_cons_succ]
        exact FreeUpon.pure (.agg #[.int .i64 x.xMe, .int .i64 x.xPeer, .int .i64 x.xSecret, .int .i64 x.xWish, .int .i64 x.xLast, .int .i64 x.xState, .int .i64 x.xTag, .int .i64 x.xPeerTag, .int .i64 x.xTsn, .int .i64 x.xPeerTsn, .int .i64 x.xStreams, .slice B x.xCookie.length d, .int .i64 x.xTries, .int .i64 x.xLeft]) (exec_load_blk 67 (.tmp 5) rfl (X.out.keep hS) rfl _ Try.underlying67 rfl isz_AscEnd) ⟨rfl, rfl⟩ hS
      · intro y fp0 hS hd
        try simp only [Act.put, List.setIfInBounds_toArray, List.set_cons_zero, List.set_cons_succ]
        refine FreeUpon.call (g := 143) (args := #[]) ?_ ((l6None_n y).mono fun e y' ⟨v', f', he, h1, h2, h3⟩ => ⟨v', f', he, h1, h2, h3, hS.trans (h3.mono hS.size)⟩)
        go_simp
    · intro vals fp y hS hb hf
      have Hf := Lib.hid hf
      clear hf hb
      have e0 : vals 0 = .agg #[.int .i64 x.xMe, .int .i64 x.xPeer, .int .i64 x.xSecret, .int .i64 x.xWish, .int .i64 x.xLast, .int .i64 x.xState, .int .i64 x.xTag, .int .i64 x.xPeerTag, .int .i64 x.xTsn, .int .i64 x.xPeerTsn, .int .i64 x.xStreams, .slice B x.xCookie.length d, .int .i64 x.xTries, .int .i64 x.xLeft] := (Hf.out.1 0 (by omega) rfl).1.1
      have o1 : OwL 195 4 EFrmPacket y (fp 1) (vals 1) [] := (Hf.out.1 1 (by omega) rfl).1
      have n1 : Nw w3.heap.size y.heap.size (fp 1) := (Hf.out.1 1 (by omega) rfl).2
      have O1 := Lib.hid o1
      have N1 := Lib.hid n1
      replace R := Lib.hid (R.out.keep hS)
      replace HB := Lib.hid (HB.out.trans (hS.mono HB.out.size))
      replace OX := Lib.hid (OX.out.below hS)
      have ZY := Lib.hid hS.size
      simp only [List.take_succ_cons, List.take_zero, List.drop_succ_cons, List.drop_zero, putAll, Act.put, List.setIfInBounds_toArray, List.set_cons_zero, List.set_cons_succ, e0]
      clear hS Hf e0 o1 n1
      go_wp2_with (refine wpList_store_blk rfl 67 (.tmp 2) (.tmp 16) rfl R.out _ rfl rfl rfl isz_AscEnd (by kernel_rfl) ?_; intro w9 kk9 ff9 ss9)
      refine bodyPost_ret (v := .tuple #[.agg #[.int .i64 x.xMe, .int .i64 x.xPeer, .int .i64 x.xSecret, .int .i64 x.xWish, .int .i64 x.xLast, .int .i64 x.xState, .int .i64 x.xTag, .int .i64 x.xPeerTag, .int .i64 x.xTsn, .int .i64 x.xPeerTsn, .int .i64 x.xStreams, .slice B x.xCookie.length d, .int .i64 x.xTries, .int .i64 x.xLeft], vals 1, .int .i64 0]) (results_row3 rfl rfl rfl rfl (load_blk 67 kk9 _ Try.underlying67 rfl isz_AscEnd)) rfl ?_
      refine ⟨_, vals 1, gx, fp 1, by rw [HK.out], by rw [HE.out]; exact ⟨_, _, rfl, OX.out.frl ff9 (fun b hb => by have := (NX.out.2 b hb).1; simp; omega), rfl⟩, by rw [HP.out]; exact OwL.frl EFrmPacket.framed EFrmPacket.inside O1.out ff9 (fun b hb => by have := (N1.out.2 b hb).1; have := ZW.out; have := Z2.out; simp; omega), ?_, below_frl1 HB.out (Nat.le_refl _) ff9 (by omega)⟩
      rw [ss9]
      exact (NX.out.mono (lo' := w.heap.size) (by omega) (Nat.le_refl _)).app (N1.out.mono (by have := ZW.out; omega) (Nat.le_refl _)) (by have := Z2.out; omega) (by have := ZW.out; have := ZY.out; omega)
  obtain ⟨hw, ht0, ht4, hl1, hl3⟩ := ascOk_waits Hok.out h0
  have Hw := Lib.hid (show (moreE x).xState = 1 ∨ ((moreE x).xState = 2 ∧ 0 < (moreE x).xCookie.length ∧ (moreE x).xCookie.length ≤ 64) ∨ (moreE x).xState = 4 ∨ (moreE x).xState = 5 from hw)
  clear hw
  have q0 : (x.xLeft == 0) = false := by simpa using h0
  by_cases h1 : 0 < x.xLeft - 1
  · skip
    obtain ⟨he, hp, hk⟩ := H_l.out Hok.out h0 h1
    have HE := Lib.hid he
    have HP := Lib.hid hp
    have HK := Lib.hid hk
    clear he hp hk
    clear h0
    have bS := (Below.refl w2.heap.size w2).alloc (Nat.le_refl _) (.cells #[.int .i64 x.xMe, .int .i64 x.xPeer, .int .i64 x.xSecret, .int .i64 x.xWish, .int .i64 x.xLast, .int .i64 x.xState, .int .i64 x.xTag, .int .i64 x.xPeerTag, .int .i64 x.xTsn, .int .i64 x.xPeerTsn, .int .i64 x.xStreams, .slice B x.xCookie.length d, .int .i64 x.xTries, .int .i64 (x.xLeft - 1)] 67)
    have X := Lib.hid (Blk.new (w := w2) (b := w2.heap.size) #[.int .i64 x.xMe, .int .i64 x.xPeer, .int .i64 x.xSecret, .int .i64 x.xWish, .int .i64 x.xLast, .int .i64 x.xState, .int .i64 x.xTag, .int .i64 x.xPeerTag, .int .i64 x.xTsn, .int .i64 x.xPeerTsn, .int .i64 x.xStreams, .slice B x.xCookie.length d, .int .i64 x.xTries, .int .i64 (x.xLeft - 1)] 67 rfl)
    have R := Lib.hid (Rw.out.keep bS)
    have OX := Lib.hid (OXw.out.below bS)
    have HB := Lib.hid (HBw.out.trans (bS.mono (by have := Z2.out; omega)))
    have ZW := Lib.hid (show w2.heap.size + 1 ≤ (w2.alloc (.cells #[.int .i64 x.xMe, .int .i64 x.xPeer, .int .i64 x.xSecret, .int .i64 x.xWish, .int .i64 x.xLast, .int .i64 x.xState, .int .i64 x.xTag, .int .i64 x.xPeerTag, .int .i64 x.xTsn, .int .i64 x.xPeerTsn, .int .i64 x.xStreams, .slice B x.xCookie.length d, .int .i64 x.xTries, .int .i64 (x.xLeft - 1)] 67)).heap.size by simp)
    clear bS
    go_wp2_with (refine wpList_store_new _ rfl 67 (.tmp 5) (.tmp 12) rfl rfl rfl isz_AscEnd rfl (by kernel_rfl) ?_)
    clear q0
    clear K
    generalize hw3 : World.alloc w2 (.cells #[.int .i64 x.xMe, .int .i64 x.xPeer, .int .i64 x.xSecret, .int .i64 x.xWish, .int .i64 x.xLast, .int .i64 x.xState, .int .i64 x.xTag, .int .i64 x.xPeerTag, .int .i64 x.xTsn, .int .i64 x.xPeerTsn, .int .i64 x.xStreams, .slice B x.xCookie.length d, .int .i64 x.xTries, .int .i64 (x.xLeft - 1)] 67) = w3 at *
    clear hw3
    refine wp_region_free 2 (fun y => Below w3.heap.size w3 y) (fun vals i v y f => match i with | 0 => v = .agg #[.int .i64 x.xMe, .int .i64 x.xPeer, .int .i64 x.xSecret, .int .i64 x.xWish, .int .i64 x.xLast, .int .i64 x.xState, .int .i64 x.xTag, .int .i64 x.xPeerTag, .int .i64 x.xTsn, .int .i64 x.xPeerTsn, .int .i64 x.xStreams, .slice B x.xCookie.length d, .int .i64 x.xTries, .int .i64 (x.xLeft - 1)] ∧ f = [] | 1 => OwL 195 4 EFrmPacket y f v [] | _ => False) (fun i => i) (by kernel_rfl) (by kernel_rfl) ?_ ?_ (Below.refl _ _).drew ?_ ?_
    · intro _ i v y y' f h hb
      match i, h with
      | 0, h => exact h
      | 1, h => exact OwL.below EFrmPacket.framed EFrmPacket.inside h hb
    · intro vals vals' i o v y f ho hd h
      match i, h with
      | 0, h => exact h
      | 1, h => exact h
    · intro vals
      simp only [List.take_succ_cons, List.take_zero, Steps]
      refine ⟨?_, ?_, trivial⟩
      · intro y fp0 hS hd
        try simp only [Act.put, List.setIfInBounds_toArray, List.set_cons_zero, List.set_cons_succ]
        exact FreeUpon.pure (.agg #[.int .i64 x.xMe, .int .i64 x.xPeer, .int .i64 x.xSecret, .int .i64 x.xWish, .int .i64 x.xLast, .int .i64 x.xState, .int .i64 x.xTag, .int .i64 x.xPeerTag, .int .i64 x.xTsn, .int .i64 x.xPeerTsn, .int .i64 x.xStreams, .slice B x.xCookie.length d, .int .i64 x.xTries, .int .i64 (x.xLeft - 1)]) (exec_load_blk 67 (.tmp 5) rfl (X.out.keep hS) rfl _ Try.underlying67 rfl isz_AscEnd) ⟨rfl, rfl⟩ hS
      · intro y fp0 hS hd
        try simp only [Act.put, List.setIfInBounds_toArray, List.set_cons_zero, List.set_cons_succ]
        refine FreeUpon.call (g := 143) (args := #[]) ?_ ((l6None_n y).mono fun e y' ⟨v', f', he, h1, h2, h3⟩ => ⟨v', f', he, h1, h2, h3, hS.trans (h3.mono hS.size)⟩)
        go_simp
    · intro vals fp y hS hb hf
      have Hf := Lib.hid hf
      clear hf hb
      have e0 : vals 0 = .agg #[.int .i64 x.xMe, .int .i64 x.xPeer, .int .i64 x.xSecret, .int .i64 x.xWish, .int .i64 x.xLast, .int .i64 x.xState, .int .i64 x.xTag, .int .i64 x.xPeerTag, .int .i64 x.xTsn, .int .i64 x.xPeerTsn, .int .i64 x.xStreams, .slice B x.xCookie.length d, .int .i64 x.xTries, .int .i64 (x.xLeft - 1)] := (Hf.out.1 0 (by omega) rfl).1.1
      have o1 : OwL 195 4 EFrmPacket y (fp 1) (vals 1) [] := (Hf.out.1 1 (by omega) rfl).1
      have n1 : Nw w3.heap.size y.heap.size (fp 1) := (Hf.out.1 1 (by omega) rfl).2
      have O1 := Lib.hid o1
      have N1 := Lib.hid n1
      replace R := Lib.hid (R.out.keep hS)
      replace HB := Lib.hid (HB.out.trans (hS.mono HB.out.size))
      replace OX := Lib.hid (OX.out.below hS)
      have ZY := Lib.hid hS.size
      simp only [List.take_succ_cons, List.take_zero, List.drop_succ_cons, List.drop_zero, putAll, Act.put, List.setIfInBounds_toArray, List.set_cons_zero, List.set_cons_succ, e0]
      clear hS Hf e0 o1 n1
      go_wp2_with (refine wpList_store_blk rfl 67 (.tmp 2) (.tmp 25) rfl R.out _ rfl rfl rfl isz_AscEnd (by kernel_rfl) ?_; intro w9 kk9 ff9 ss9)
      refine bodyPost_ret (v := .tuple #[.agg #[.int .i64 x.xMe, .int .i64 x.xPeer, .int .i64 x.xSecret, .int .i64 x.xWish, .int .i64 x.xLast, .int .i64 x.xState, .int .i64 x.xTag, .int .i64 x.xPeerTag, .int .i64 x.xTsn, .int .i64 x.xPeerTsn, .int .i64 x.xStreams, .slice B x.xCookie.length d, .int .i64 x.xTries, .int .i64 (x.xLeft - 1)], vals 1, .int .i64 0]) (results_row3 rfl rfl rfl rfl (load_blk 67 kk9 _ Try.underlying67 rfl isz_AscEnd)) rfl ?_
      refine ⟨_, vals 1, gx, fp 1, by rw [HK.out], by rw [HE.out]; exact ⟨_, _, rfl, OX.out.frl ff9 (fun b hb => by have := (NX.out.2 b hb).1; simp; omega), rfl⟩, by rw [HP.out]; exact OwL.frl EFrmPacket.framed EFrmPacket.inside O1.out ff9 (fun b hb => by have := (N1.out.2 b hb).1; have := ZW.out; have := Z2.out; simp; omega), ?_, below_frl1 HB.out (Nat.le_refl _) ff9 (by omega)⟩
      rw [ss9]
      exact (NX.out.mono (lo' := w.heap.size) (by omega) (Nat.le_refl _)).app (N1.out.mono (by have := ZW.out; omega) (Nat.le_refl _)) (by have := Z2.out; omega) (by have := ZW.out; have := ZY.out; omega)
  by_cases h2 : x.xTries = 4
  · have q2 : (x.xTries == 4) = true := by rw [h2]; rfl
    by_cases h3 : x.xState ≤ 2
    · skip
      obtain ⟨he, hp, hk⟩ := H_g.out Hok.out h0 (by omega) h2 h3
      have HE := Lib.hid he
      have HP := Lib.hid hp
      have HK := Lib.hid hk
      clear he hp hk
      clear h0 h2
      have bS := (Below.refl w2.heap.size w2).alloc (Nat.le_refl _) (.cells #[.int .i64 x.xMe, .int .i64 x.xPeer, .int .i64 x.xSecret, .int .i64 x.xWish, .int .i64 x.xLast, .int .i64 x.xState, .int .i64 x.xTag, .int .i64 x.xPeerTag, .int .i64 x.xTsn, .int .i64 x.xPeerTsn, .int .i64 x.xStreams, .slice B x.xCookie.length d, .int .i64 x.xTries, .int .i64 (x.xLeft - 1)] 67)
      have X := Lib.hid (Blk.new (w := w2) (b := w2.heap.size) #[.int .i64 x.xMe, .int .i64 x.xPeer, .int .i64 x.xSecret, .int .i64 x.xWish, .int .i64 x.xLast, .int .i64 x.xState, .int .i64 x.xTag, .int .i64 x.xPeerTag, .int .i64 x.xTsn, .int .i64 x.xPeerTsn, .int .i64 x.xStreams, .slice B x.xCookie.length d, .int .i64 x.xTries, .int .i64 (x.xLeft - 1)] 67 rfl)
      have R := Lib.hid (Rw.out.keep bS)
      have OX := Lib.hid (OXw.out.below bS)
      have HB := Lib.hid (HBw.out.trans (bS.mono (by have := Z2.out; omega)))
      have ZW := Lib.hid (show w2.heap.size + 1 ≤ (w2.alloc (.cells #[.int .i64 x.xMe, .int .i64 x.xPeer, .int .i64 x.xSecret, .int .i64 x.xWish, .int .i64 x.xLast, .int .i64 x.xState, .int .i64 x.xTag, .int .i64 x.xPeerTag, .int .i64 x.xTsn, .int .i64 x.xPeerTsn, .int .i64 x.xStreams, .slice B x.xCookie.length d, .int .i64 x.xTries, .int .i64 (x.xLeft - 1)] 67)).heap.size by simp)
      clear bS
      go_wp2_with (first | (refine wpList_store_new _ rfl 67 (.tmp 5) (.tmp 12) rfl rfl rfl isz_AscEnd rfl (by kernel_rfl) ?_) | (refine wpList_load_blk rfl 67 (.tmp 5) rfl X.out rfl _ Try.underlying67 rfl isz_AscEnd ?_))
      clear K
      refine (l6Closed_n (lessE x) (.slice B x.xCookie.length d) _).mono ?_
      rintro e w4 ⟨c1, g1, rfl, E1, n1, b1⟩
      obtain ⟨v1, g1', rfl, p1, hg1⟩ := E1
      obtain rfl := hg1
      obtain ⟨B1, d1, rfl⟩ := p1.rd.slice
      have P1 := Lib.hid p1
      have N1 := Lib.hid n1
      have Z4 := Lib.hid b1.size
      replace R := Lib.hid (R.out.keep b1)
      replace HB := Lib.hid (HB.out.trans (b1.mono HB.out.size))
      clear p1 n1 b1
      go_wp2_with fail
      refine (l6None_n _).mono ?_
      rintro e w5 ⟨v', f, rfl, o2, n2, b2⟩
      have O2 := Lib.hid o2
      have N2 := Lib.hid n2
      have Z5 := Lib.hid b2.size
      replace P1 := Lib.hid (P1.out.below b2)
      replace R := Lib.hid (R.out.keep b2)
      replace HB := Lib.hid (HB.out.trans (b2.mono HB.out.size))
      clear o2 n2 b2
      go_wp2_with (refine wpList_store_blk rfl 67 (.tmp 2) (.tmp 34) rfl R.out _ rfl rfl rfl isz_AscEnd (by kernel_rfl) ?_; intro w9 kk9 ff9 ss9)
      refine bodyPost_ret (v := .tuple #[.agg #[.int .i64 (bareF (lessE x)).xMe, .int .i64 (bareF (lessE x)).xPeer, .int .i64 (bareF (lessE x)).xSecret, .int .i64 (bareF (lessE x)).xWish, .int .i64 (bareF (lessE x)).xLast, .int .i64 (bareF (lessE x)).xState, .int .i64 (bareF (lessE x)).xTag, .int .i64 (bareF (lessE x)).xPeerTag, .int .i64 (bareF (lessE x)).xTsn, .int .i64 (bareF (lessE x)).xPeerTsn, .int .i64 (bareF (lessE x)).xStreams, .slice B1 (bareF (lessE x)).xCookie.length d1, .int .i64 (bareF (lessE x)).xTries, .int .i64 (bareF (lessE x)).xLeft], v', .int .i64 3]) (results_row3 rfl rfl rfl rfl (load_blk 67 kk9 _ Try.underlying67 rfl isz_AscEnd)) rfl ?_
      refine ⟨_, v', g1, f, by rw [HK.out], by rw [HE.out]; exact ⟨_, g1, rfl, P1.out.frl ff9 (fun b hb => by have := (N1.out.2 b hb).1; have := ZW.out; have := Z2.out; simp; omega), rfl⟩, by rw [HP.out]; exact OwL.frl EFrmPacket.framed EFrmPacket.inside O2.out ff9 (fun b hb => by have := (N2.out.2 b hb).1; have := ZW.out; have := Z2.out; have := Z4.out; simp; omega), ?_, below_frl1 HB.out (Nat.le_refl _) ff9 (by omega)⟩
      rw [ss9]
      exact (N1.out.mono (lo' := w.heap.size) (by have := ZW.out; have := Z2.out; omega) (Nat.le_refl _)).app (N2.out.mono (Nat.le_refl _) (Nat.le_refl _)) (by have := ZW.out; have := Z2.out; have := Z4.out; omega) Z5.out
    · skip
      obtain ⟨he, hp, hk⟩ := H_q.out Hok.out h0 (by omega) h2 (by omega)
      have HE := Lib.hid he
      have HP := Lib.hid hp
      have HK := Lib.hid hk
      clear he hp hk
      clear h0 h2
      have bS := (Below.refl w2.heap.size w2).alloc (Nat.le_refl _) (.cells #[.int .i64 x.xMe, .int .i64 x.xPeer, .int .i64 x.xSecret, .int .i64 x.xWish, .int .i64 x.xLast, .int .i64 x.xState, .int .i64 x.xTag, .int .i64 x.xPeerTag, .int .i64 x.xTsn, .int .i64 x.xPeerTsn, .int .i64 x.xStreams, .slice B x.xCookie.length d, .int .i64 x.xTries, .int .i64 (x.xLeft - 1)] 67)
      have X := Lib.hid (Blk.new (w := w2) (b := w2.heap.size) #[.int .i64 x.xMe, .int .i64 x.xPeer, .int .i64 x.xSecret, .int .i64 x.xWish, .int .i64 x.xLast, .int .i64 x.xState, .int .i64 x.xTag, .int .i64 x.xPeerTag, .int .i64 x.xTsn, .int .i64 x.xPeerTsn, .int .i64 x.xStreams, .slice B x.xCookie.length d, .int .i64 x.xTries, .int .i64 (x.xLeft - 1)] 67 rfl)
      have R := Lib.hid (Rw.out.keep bS)
      have OX := Lib.hid (OXw.out.below bS)
      have HB := Lib.hid (HBw.out.trans (bS.mono (by have := Z2.out; omega)))
      have ZW := Lib.hid (show w2.heap.size + 1 ≤ (w2.alloc (.cells #[.int .i64 x.xMe, .int .i64 x.xPeer, .int .i64 x.xSecret, .int .i64 x.xWish, .int .i64 x.xLast, .int .i64 x.xState, .int .i64 x.xTag, .int .i64 x.xPeerTag, .int .i64 x.xTsn, .int .i64 x.xPeerTsn, .int .i64 x.xStreams, .slice B x.xCookie.length d, .int .i64 x.xTries, .int .i64 (x.xLeft - 1)] 67)).heap.size by simp)
      clear bS
      go_wp2_with (first | (refine wpList_store_new _ rfl 67 (.tmp 5) (.tmp 12) rfl rfl rfl isz_AscEnd rfl (by kernel_rfl) ?_) | (refine wpList_load_blk rfl 67 (.tmp 5) rfl X.out rfl _ Try.underlying67 rfl isz_AscEnd ?_))
      clear K
      refine (l6Closed_n (lessE x) (.slice B x.xCookie.length d) _).mono ?_
      rintro e w4 ⟨c1, g1, rfl, E1, n1, b1⟩
      obtain ⟨v1, g1', rfl, p1, hg1⟩ := E1
      obtain rfl := hg1
      obtain ⟨B1, d1, rfl⟩ := p1.rd.slice
      have P1 := Lib.hid p1
      have N1 := Lib.hid n1
      have Z4 := Lib.hid b1.size
      replace R := Lib.hid (R.out.keep b1)
      replace HB := Lib.hid (HB.out.trans (b1.mono HB.out.size))
      clear p1 n1 b1
      go_wp2_with fail
      refine (l6None_n _).mono ?_
      rintro e w5 ⟨v', f, rfl, o2, n2, b2⟩
      have O2 := Lib.hid o2
      have N2 := Lib.hid n2
      have Z5 := Lib.hid b2.size
      replace P1 := Lib.hid (P1.out.below b2)
      replace R := Lib.hid (R.out.keep b2)
      replace HB := Lib.hid (HB.out.trans (b2.mono HB.out.size))
      clear o2 n2 b2
      go_wp2_with (refine wpList_store_blk rfl 67 (.tmp 2) (.tmp 37) rfl R.out _ rfl rfl rfl isz_AscEnd (by kernel_rfl) ?_; intro w9 kk9 ff9 ss9)
      refine bodyPost_ret (v := .tuple #[.agg #[.int .i64 (bareF (lessE x)).xMe, .int .i64 (bareF (lessE x)).xPeer, .int .i64 (bareF (lessE x)).xSecret, .int .i64 (bareF (lessE x)).xWish, .int .i64 (bareF (lessE x)).xLast, .int .i64 (bareF (lessE x)).xState, .int .i64 (bareF (lessE x)).xTag, .int .i64 (bareF (lessE x)).xPeerTag, .int .i64 (bareF (lessE x)).xTsn, .int .i64 (bareF (lessE x)).xPeerTsn, .int .i64 (bareF (lessE x)).xStreams, .slice B1 (bareF (lessE x)).xCookie.length d1, .int .i64 (bareF (lessE x)).xTries, .int .i64 (bareF (lessE x)).xLeft], v', .int .i64 0]) (results_row3 rfl rfl rfl rfl (load_blk 67 kk9 _ Try.underlying67 rfl isz_AscEnd)) rfl ?_
      refine ⟨_, v', g1, f, by rw [HK.out], by rw [HE.out]; exact ⟨_, g1, rfl, P1.out.frl ff9 (fun b hb => by have := (N1.out.2 b hb).1; have := ZW.out; have := Z2.out; simp; omega), rfl⟩, by rw [HP.out]; exact OwL.frl EFrmPacket.framed EFrmPacket.inside O2.out ff9 (fun b hb => by have := (N2.out.2 b hb).1; have := ZW.out; have := Z2.out; have := Z4.out; simp; omega), ?_, below_frl1 HB.out (Nat.le_refl _) ff9 (by omega)⟩
      rw [ss9]
      exact (N1.out.mono (lo' := w.heap.size) (by have := ZW.out; have := Z2.out; omega) (Nat.le_refl _)).app (N2.out.mono (Nat.le_refl _) (Nat.le_refl _)) (by have := ZW.out; have := Z2.out; have := Z4.out; omega) Z5.out
  · have q2 : (x.xTries == 4) = false := by simpa using h2
    obtain ⟨he, hp, hk⟩ := H_a.out Hok.out h0 (by omega) h2
    have HE := Lib.hid he
    have HP := Lib.hid hp
    have HK := Lib.hid hk
    clear he hp hk
    clear h0 h2
    have bS := (Below.refl w2.heap.size w2).alloc (Nat.le_refl _) (.cells #[.int .i64 x.xMe, .int .i64 x.xPeer, .int .i64 x.xSecret, .int .i64 x.xWish, .int .i64 x.xLast, .int .i64 x.xState, .int .i64 x.xTag, .int .i64 x.xPeerTag, .int .i64 x.xTsn, .int .i64 x.xPeerTsn, .int .i64 x.xStreams, .slice B x.xCookie.length d, .int .i64 (x.xTries + 1), .int .i64 3] 67)
    have X := Lib.hid (Blk.new (w := w2) (b := w2.heap.size) #[.int .i64 x.xMe, .int .i64 x.xPeer, .int .i64 x.xSecret, .int .i64 x.xWish, .int .i64 x.xLast, .int .i64 x.xState, .int .i64 x.xTag, .int .i64 x.xPeerTag, .int .i64 x.xTsn, .int .i64 x.xPeerTsn, .int .i64 x.xStreams, .slice B x.xCookie.length d, .int .i64 (x.xTries + 1), .int .i64 3] 67 rfl)
    have R := Lib.hid (Rw.out.keep bS)
    have OX := Lib.hid (OXw.out.below bS)
    have HB := Lib.hid (HBw.out.trans (bS.mono (by have := Z2.out; omega)))
    have ZW := Lib.hid (show w2.heap.size + 1 ≤ (w2.alloc (.cells #[.int .i64 x.xMe, .int .i64 x.xPeer, .int .i64 x.xSecret, .int .i64 x.xWish, .int .i64 x.xLast, .int .i64 x.xState, .int .i64 x.xTag, .int .i64 x.xPeerTag, .int .i64 x.xTsn, .int .i64 x.xPeerTsn, .int .i64 x.xStreams, .slice B x.xCookie.length d, .int .i64 (x.xTries + 1), .int .i64 3] 67)).heap.size by simp)
    clear bS
    go_wp2_with (refine wpList_store_new _ rfl 67 (.tmp 5) (.tmp 12) rfl rfl rfl isz_AscEnd rfl (by kernel_rfl) ?_)
    clear q0 q2
    clear K
    generalize hw3 : World.alloc w2 (.cells #[.int .i64 x.xMe, .int .i64 x.xPeer, .int .i64 x.xSecret, .int .i64 x.xWish, .int .i64 x.xLast, .int .i64 x.xState, .int .i64 x.xTag, .int .i64 x.xPeerTag, .int .i64 x.xTsn, .int .i64 x.xPeerTsn, .int .i64 x.xStreams, .slice B x.xCookie.length d, .int .i64 (x.xTries + 1), .int .i64 3] 67) = w3 at *
    clear hw3
    refine wp_region_free 3 (fun y => Below w3.heap.size w3 y) (fun vals i v y f => match i with | 0 => v = .agg #[.int .i64 x.xMe, .int .i64 x.xPeer, .int .i64 x.xSecret, .int .i64 x.xWish, .int .i64 x.xLast, .int .i64 x.xState, .int .i64 x.xTag, .int .i64 x.xPeerTag, .int .i64 x.xTsn, .int .i64 x.xPeerTsn, .int .i64 x.xStreams, .slice B x.xCookie.length d, .int .i64 (x.xTries + 1), .int .i64 3] ∧ f = [] | 1 => v = .agg #[.int .i64 x.xMe, .int .i64 x.xPeer, .int .i64 x.xSecret, .int .i64 x.xWish, .int .i64 x.xLast, .int .i64 x.xState, .int .i64 x.xTag, .int .i64 x.xPeerTag, .int .i64 x.xTsn, .int .i64 x.xPeerTsn, .int .i64 x.xStreams, .slice B x.xCookie.length d, .int .i64 (x.xTries + 1), .int .i64 3] ∧ f = [] | 2 => OwL 195 4 EFrmPacket y f v sP | _ => False) (fun i => i) (by kernel_rfl) (by kernel_rfl) ?_ ?_ (Below.refl _ _).drew ?_ ?_
    · intro _ i v y y' f h hb
      match i, h with
      | 0, h => exact h
      | 1, h => exact h
      | 2, h => exact OwL.below EFrmPacket.framed EFrmPacket.inside h hb
    · intro vals vals' i o v y f ho hd h
      match i, h with
      | 0, h => exact h
      | 1, h => exact h
      | 2, h => exact h
    · intro vals
      simp only [List.take_succ_cons, List.take_zero, Steps]
      refine ⟨?_, ?_, ?_, trivial⟩
      · intro y fp0 hS hd
        try simp only [Act.put, List.setIfInBounds_toArray, List.set_cons_zero, List.set_cons_succ]
        exact FreeUpon.pure (.agg #[.int .i64 x.xMe, .int .i64 x.xPeer, .int .i64 x.xSecret, .int .i64 x.xWish, .int .i64 x.xLast, .int .i64 x.xState, .int .i64 x.xTag, .int .i64 x.xPeerTag, .int .i64 x.xTsn, .int .i64 x.xPeerTsn, .int .i64 x.xStreams, .slice B x.xCookie.length d, .int .i64 (x.xTries + 1), .int .i64 3]) (exec_load_blk 67 (.tmp 5) rfl (X.out.keep hS) rfl _ Try.underlying67 rfl isz_AscEnd) ⟨rfl, rfl⟩ hS
      · intro y fp0 hS hd
        try simp only [Act.put, List.setIfInBounds_toArray, List.set_cons_zero, List.set_cons_succ]
        exact FreeUpon.pure (.agg #[.int .i64 x.xMe, .int .i64 x.xPeer, .int .i64 x.xSecret, .int .i64 x.xWish, .int .i64 x.xLast, .int .i64 x.xState, .int .i64 x.xTag, .int .i64 x.xPeerTag, .int .i64 x.xTsn, .int .i64 x.xPeerTsn, .int .i64 x.xStreams, .slice B x.xCookie.length d, .int .i64 (x.xTries + 1), .int .i64 3]) (exec_load_blk 67 (.tmp 5) rfl (X.out.keep hS) rfl _ Try.underlying67 rfl isz_AscEnd) ⟨rfl, rfl⟩ hS
      · intro y fp0 hS hd
        try simp only [Act.put, List.setIfInBounds_toArray, List.set_cons_zero, List.set_cons_succ]
        obtain ⟨⟨hp1, _⟩, _⟩ := hd { on := 1, ground := Ground.data } (by simp) (by kernel_rfl)
        simp only at hp1
        refine FreeUpon.call (g := 163) (args := #[.agg #[.int .i64 x.xMe, .int .i64 x.xPeer, .int .i64 x.xSecret, .int .i64 x.xWish, .int .i64 x.xLast, .int .i64 x.xState, .int .i64 x.xTag, .int .i64 x.xPeerTag, .int .i64 x.xTsn, .int .i64 x.xPeerTsn, .int .i64 x.xStreams, .slice B x.xCookie.length d, .int .i64 (x.xTries + 1), .int .i64 3]]) ?_ ((l6Again_n (moreE x) (.slice B x.xCookie.length d) y Hw.out (OX.out.below hS).rd).mono fun e y' ⟨v', f', he, h1, h2, h3⟩ => ⟨v', f', he, by rw [HP.out]; exact h1, h2, h3, hS.trans (h3.mono hS.size)⟩)
        go_simp
    · intro vals fp y hS hb hf
      have Hf := Lib.hid hf
      clear hf hb
      have e0 : vals 0 = .agg #[.int .i64 x.xMe, .int .i64 x.xPeer, .int .i64 x.xSecret, .int .i64 x.xWish, .int .i64 x.xLast, .int .i64 x.xState, .int .i64 x.xTag, .int .i64 x.xPeerTag, .int .i64 x.xTsn, .int .i64 x.xPeerTsn, .int .i64 x.xStreams, .slice B x.xCookie.length d, .int .i64 (x.xTries + 1), .int .i64 3] := (Hf.out.1 0 (by omega) rfl).1.1
      have e1 : vals 1 = .agg #[.int .i64 x.xMe, .int .i64 x.xPeer, .int .i64 x.xSecret, .int .i64 x.xWish, .int .i64 x.xLast, .int .i64 x.xState, .int .i64 x.xTag, .int .i64 x.xPeerTag, .int .i64 x.xTsn, .int .i64 x.xPeerTsn, .int .i64 x.xStreams, .slice B x.xCookie.length d, .int .i64 (x.xTries + 1), .int .i64 3] := (Hf.out.1 1 (by omega) rfl).1.1
      have o1 : OwL 195 4 EFrmPacket y (fp 2) (vals 2) sP := (Hf.out.1 2 (by omega) rfl).1
      have n1 : Nw w3.heap.size y.heap.size (fp 2) := (Hf.out.1 2 (by omega) rfl).2
      have O1 := Lib.hid o1
      have N1 := Lib.hid n1
      replace R := Lib.hid (R.out.keep hS)
      replace HB := Lib.hid (HB.out.trans (hS.mono HB.out.size))
      replace OX := Lib.hid (OX.out.below hS)
      have ZY := Lib.hid hS.size
      simp only [List.take_succ_cons, List.take_zero, List.drop_succ_cons, List.drop_zero, putAll, Act.put, List.setIfInBounds_toArray, List.set_cons_zero, List.set_cons_succ, e0, e1]
      clear hS Hf e0 e1 o1 n1
      go_wp2_with (refine wpList_store_blk rfl 67 (.tmp 2) (.tmp 44) rfl R.out _ rfl rfl rfl isz_AscEnd (by kernel_rfl) ?_; intro w9 kk9 ff9 ss9)
      refine bodyPost_ret (v := .tuple #[.agg #[.int .i64 x.xMe, .int .i64 x.xPeer, .int .i64 x.xSecret, .int .i64 x.xWish, .int .i64 x.xLast, .int .i64 x.xState, .int .i64 x.xTag, .int .i64 x.xPeerTag, .int .i64 x.xTsn, .int .i64 x.xPeerTsn, .int .i64 x.xStreams, .slice B x.xCookie.length d, .int .i64 (x.xTries + 1), .int .i64 3], vals 2, .int .i64 0]) (results_row3 rfl rfl rfl rfl (load_blk 67 kk9 _ Try.underlying67 rfl isz_AscEnd)) rfl ?_
      refine ⟨_, vals 2, gx, fp 2, by rw [HK.out], by rw [HE.out]; exact ⟨_, _, rfl, OX.out.frl ff9 (fun b hb => by have := (NX.out.2 b hb).1; simp; omega), rfl⟩, OwL.frl EFrmPacket.framed EFrmPacket.inside O1.out ff9 (fun b hb => by have := (N1.out.2 b hb).1; have := ZW.out; have := Z2.out; simp; omega), ?_, below_frl1 HB.out (Nat.le_refl _) ff9 (by omega)⟩
      rw [ss9]
      exact (NX.out.mono (lo' := w.heap.size) (by omega) (Nat.le_refl _)).app (N1.out.mono (by have := ZW.out; omega) (Nat.le_refl _)) (by have := Z2.out; omega) (by have := ZW.out; have := ZY.out; omega)
end Go.Proofs.Ythdjjgbjemaabaa
