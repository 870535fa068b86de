/-
  AscClose of the model. (Written by wip/tools/genstart.py.)
-/
import Derived.Test.YthdjjgbjemaabaaStartF
import Derived.Test.YthdjjgbjemaabaaFree
namespace Go.Proofs.Ythdjjgbjemaabaa
open Go.ChangeShapes Go.WideShapes Go.ChangeAt Go.RowKit
set_option linter.unusedVariables false
set_option linter.unusedSimpArgs false

set_option maxRecDepth 100000 in
set_option maxHeartbeats 4000000 in
theorem specAscClose_p (cs : List Value) (x : DAscEnd) (at_ : Int) (hard : Bool) (w : World) (h : FAscEnd w cs x) (hz : zAscEnd x ≤ 1048576) : Calls Try.prog 48 #[.agg cs.toArray, .int .i64 at_, .bool hard] w (LinePost w (closeE x at_ hard) (closeP x at_ hard) (closeK x at_ hard)) := by
  have HF := Lib.hid h
  obtain ⟨vk, rfl, h11⟩ := h
  clear h11
  have Hz := Lib.hid (show x.xCookie.length ≤ 1048576 from hz)
  clear hz
  have H_1 := Lib.hid (fun h => close_1 (x := x) (at_ := at_) (hard := hard) h)
  have H_2 := Lib.hid (fun h => close_2 (x := x) (at_ := at_) (hard := hard) h)
  have H_3 := Lib.hid (fun h => close_3 (x := x) (at_ := at_) (hard := hard) h)
  have H_h := Lib.hid (fun h => close_h (x := x) (at_ := at_) (hard := hard) h)
  have H_s := Lib.hid (fun h => close_s (x := x) (at_ := at_) (hard := hard) h)
  generalize closeE x at_ hard = sE at *
  generalize closeP x at_ hard = sP at *
  generalize closeK x at_ hard = sK at *
  have K := Lib.hid ((Blk.new (w := w) (b := w.heap.size) #[.int .i64 x.xMe, .int .i64 x.xPeer, .int .i64 x.xSecret, .int .i64 x.xWish, .int .i64 x.xLast, .int .i64 x.xState, .int .i64 x.xTag, .int .i64 x.xPeerTag, .int .i64 x.xTsn, .int .i64 x.xPeerTsn, .int .i64 x.xStreams, vk, .int .i64 x.xTries, .int .i64 x.xLeft] 67 rfl).alloc (.cells #[.int .i64 0, .int .i64 0, .int .i64 0, .int .i64 0, .int .i64 0, .int .i64 0, .int .i64 0, .int .i64 0, .int .i64 0, .int .i64 0, .int .i64 0, .slice none 0 0, .int .i64 0, .int .i64 0] 67))
  have R := Lib.hid (Blk.new (w := (w.alloc (.cells #[.int .i64 x.xMe, .int .i64 x.xPeer, .int .i64 x.xSecret, .int .i64 x.xWish, .int .i64 x.xLast, .int .i64 x.xState, .int .i64 x.xTag, .int .i64 x.xPeerTag, .int .i64 x.xTsn, .int .i64 x.xPeerTsn, .int .i64 x.xStreams, vk, .int .i64 x.xTries, .int .i64 x.xLeft] 67))) (b := w.heap.size + 1) #[.int .i64 0, .int .i64 0, .int .i64 0, .int .i64 0, .int .i64 0, .int .i64 0, .int .i64 0, .int .i64 0, .int .i64 0, .int .i64 0, .int .i64 0, .slice none 0 0, .int .i64 0, .int .i64 0] 67 (by simp))
  have HB := Lib.hid (((Below.refl w.heap.size w).alloc (Nat.le_refl _) (.cells #[.int .i64 x.xMe, .int .i64 x.xPeer, .int .i64 x.xSecret, .int .i64 x.xWish, .int .i64 x.xLast, .int .i64 x.xState, .int .i64 x.xTag, .int .i64 x.xPeerTag, .int .i64 x.xTsn, .int .i64 x.xPeerTsn, .int .i64 x.xStreams, vk, .int .i64 x.xTries, .int .i64 x.xLeft] 67)).alloc (by simp) (.cells #[.int .i64 0, .int .i64 0, .int .i64 0, .int .i64 0, .int .i64 0, .int .i64 0, .int .i64 0, .int .i64 0, .int .i64 0, .int .i64 0, .int .i64 0, .slice none 0 0, .int .i64 0, .int .i64 0] 67))
  have Z0 := Lib.hid (show w.heap.size + 2 = ((w.alloc (.cells #[.int .i64 x.xMe, .int .i64 x.xPeer, .int .i64 x.xSecret, .int .i64 x.xWish, .int .i64 x.xLast, .int .i64 x.xState, .int .i64 x.xTag, .int .i64 x.xPeerTag, .int .i64 x.xTsn, .int .i64 x.xPeerTsn, .int .i64 x.xStreams, vk, .int .i64 x.xTries, .int .i64 x.xLeft] 67)).alloc (.cells #[.int .i64 0, .int .i64 0, .int .i64 0, .int .i64 0, .int .i64 0, .int .i64 0, .int .i64 0, .int .i64 0, .int .i64 0, .int .i64 0, .int .i64 0, .slice none 0 0, .int .i64 0, .int .i64 0] 67)).heap.size by simp)
  go_enter Try.func48, Try.ntmps48
  go_wp2_with (refine wpList_load_blk rfl 67 (.tmp 3) rfl K.out rfl _ Try.underlying67 rfl isz_AscEnd ?_)
  refine (specAscEndOk_r _ x _ (HF.out.below HB.out)).mono ?_
  rintro e w1 ⟨rfl, b1⟩
  replace K := Lib.hid (K.out.keep b1)
  replace R := Lib.hid (R.out.keep b1)
  replace HB := Lib.hid (HB.out.trans (b1.mono HB.out.size))
  have Z1 := Lib.hid (show w.heap.size + 2 ≤ w1.heap.size by have := b1.size; have := Z0.out; omega)
  clear b1
  rcases hok : ascOk x with _ | _
  · obtain ⟨he, hp, hk⟩ := H_1.out hok
    have HE := Lib.hid he
    have HP := Lib.hid hp
    have HK := Lib.hid hk
    clear he hp hk
    go_wp2_with fail
    refine (l6None_n _).mono ?_
    rintro e w2 ⟨v', f, rfl, o2, n2, b2⟩
    have O2 := Lib.hid o2
    have N2 := Lib.hid n2
    replace R := Lib.hid (R.out.keep b2)
    replace HB := Lib.hid (HB.out.trans (b2.mono HB.out.size))
    clear o2 n2 b2
    go_wp2_with (refine wpList_store_blk rfl 67 (.tmp 6) (.tmp 13) rfl R.out _ rfl rfl rfl isz_AscEnd (by kernel_rfl) ?_; intro w9 kk9 ff9 ss9)
    refine bodyPost_ret (v := .tuple #[.agg #[.int .i64 0, .int .i64 0, .int .i64 0, .int .i64 0, .int .i64 0, .int .i64 0, .int .i64 0, .int .i64 0, .int .i64 0, .int .i64 0, .int .i64 0, .slice none 0 0, .int .i64 0, .int .i64 0], v', .int .i64 1]) (results_row3 rfl rfl rfl rfl (load_blk 67 kk9 _ Try.underlying67 rfl isz_AscEnd)) rfl ?_
    refine ⟨_, v', [], f, by rw [HK.out], by rw [HE.out]; exact EAscEnd.nil _ zeroEnd rfl, by rw [HP.out]; exact OwL.frl EFrmPacket.framed EFrmPacket.inside O2.out ff9 (fun b hb => by have := (N2.out.2 b hb).1; have := Z1.out; simp; omega), ?_, below_frl1 HB.out (Nat.le_refl _) ff9 (by omega)⟩
    rw [List.nil_append, ss9]
    exact N2.out.mono (by have := Z1.out; omega) (Nat.le_refl _)
  go_wp2_with (refine wpList_load_blk rfl 67 (.tmp 3) rfl K.out rfl _ Try.underlying67 rfl isz_AscEnd ?_)
  refine (l6Copy_n _ x _ (HF.out.below HB.out) Hz.out).mono ?_
  rintro e w2 ⟨cx, gx, rfl, ex, nx, b2⟩
  obtain ⟨vx, gx', rfl, ox, hgx⟩ := ex
  obtain rfl := hgx
  obtain ⟨B, d, rfl⟩ := ox.rd.slice
  have NX := Lib.hid (nx.mono (lo' := w.heap.size + 2) Z1.out (Nat.le_refl _))
  have bX := (Below.refl w2.heap.size w2).alloc (Nat.le_refl _) (.cells #[.int .i64 x.xMe, .int .i64 x.xPeer, .int .i64 x.xSecret, .int .i64 x.xWish, .int .i64 x.xLast, .int .i64 x.xState, .int .i64 x.xTag, .int .i64 x.xPeerTag, .int .i64 x.xTsn, .int .i64 x.xPeerTsn, .int .i64 x.xStreams, .slice B x.xCookie.length d, .int .i64 x.xTries, .int .i64 x.xLeft] 67)
  have OX := Lib.hid (ox.below bX)
  have X := Lib.hid (Blk.new (w := w2) (b := w2.heap.size) #[.int .i64 x.xMe, .int .i64 x.xPeer, .int .i64 x.xSecret, .int .i64 x.xWish, .int .i64 x.xLast, .int .i64 x.xState, .int .i64 x.xTag, .int .i64 x.xPeerTag, .int .i64 x.xTsn, .int .i64 x.xPeerTsn, .int .i64 x.xStreams, .slice B x.xCookie.length d, .int .i64 x.xTries, .int .i64 x.xLeft] 67 rfl)
  have Rw := Lib.hid (R.out.keep b2)
  have OXw := Lib.hid ox
  have HBw := Lib.hid (HB.out.trans (b2.mono HB.out.size))
  replace K := Lib.hid ((K.out.keep b2).keep bX)
  replace R := Lib.hid ((R.out.keep b2).keep bX)
  have Z2 := Lib.hid (show w.heap.size + 2 ≤ w2.heap.size from Nat.le_trans Z1.out b2.size)
  replace HB := Lib.hid ((HB.out.trans (b2.mono HB.out.size)).trans (bX.mono (by have := Z2.out; omega)))
  have Z3 := Lib.hid (show w2.heap.size + 1 = (w2.alloc (.cells #[.int .i64 x.xMe, .int .i64 x.xPeer, .int .i64 x.xSecret, .int .i64 x.xWish, .int .i64 x.xLast, .int .i64 x.xState, .int .i64 x.xTag, .int .i64 x.xPeerTag, .int .i64 x.xTsn, .int .i64 x.xPeerTsn, .int .i64 x.xStreams, .slice B x.xCookie.length d, .int .i64 x.xTries, .int .i64 x.xLeft] 67)).heap.size by simp)
  clear ox nx b2 bX Z0
  rcases hn : inB at_ 0 4294967295 with _ | _
  · skip
    obtain ⟨he, hp, hk⟩ := H_2.out hok hn
    have HE := Lib.hid he
    have HP := Lib.hid hp
    have HK := Lib.hid hk
    clear he hp hk
    go_wp2_with (first | (refine wpList_store_new _ rfl 67 (.tmp 9) (.tmp 16) rfl rfl rfl isz_AscEnd rfl (by kernel_rfl) ?_) | (go_at_call 145; refine (l4Long_any _ _).mono ?_; rintro e w' ⟨rfl, rfl⟩; rw [hn]))
    generalize World.alloc w2 _ = w3 at *
    have ZW := Lib.hid (show w2.heap.size + 1 ≤ w3.heap.size from Nat.le_of_eq Z3.out)
    refine wp_region_free 2 (fun y => Below w3.heap.size w3 y) (fun vals i v y f => match i with | 0 => v = .agg #[.int .i64 x.xMe, .int .i64 x.xPeer, .int .i64 x.xSecret, .int .i64 x.xWish, .int .i64 x.xLast, .int .i64 x.xState, .int .i64 x.xTag, .int .i64 x.xPeerTag, .int .i64 x.xTsn, .int .i64 x.xPeerTsn, .int .i64 x.xStreams, .slice B x.xCookie.length d, .int .i64 x.xTries, .int .i64 x.xLeft] ∧ f = [] | 1 => OwL 195 4 EFrmPacket y f v [] | _ => False) (fun i => i) (by kernel_rfl) (by kernel_rfl) ?_ ?_ (Below.refl _ _).drew ?_ ?_
    · intro _ i v y y' f h hb
      match i, h with
      | 0, h => exact h
      | 1, h => exact OwL.below EFrmPacket.framed EFrmPacket.inside h hb
    · intro vals vals' i o v y f ho hd h
      match i, h with
      | 0, h => exact h
      | 1, h => exact h
    · intro vals
      simp only [List.take_succ_cons, List.take_zero, Steps]
      refine ⟨?_, ?_, trivial⟩
      · intro y fp0 hS hd
        try simp only [Act.put, List.setIfInBounds_toArray, List.set_cons_zero, List.set_cons_succ]
        exact FreeUpon.pure (.agg #[.int .i64 x.xMe, .int .i64 x.xPeer, .int .i64 x.xSecret, .int .i64 x.xWish, .int .i64 x.xLast, .int .i64 x.xState, .int .i64 x.xTag, .int .i64 x.xPeerTag, .int .i64 x.xTsn, .int .i64 x.xPeerTsn, .int .i64 x.xStreams, .slice B x.xCookie.length d, .int .i64 x.xTries, .int .i64 x.xLeft]) (exec_load_blk 67 (.tmp 9) rfl (X.out.keep hS) rfl _ Try.underlying67 rfl isz_AscEnd) ⟨rfl, rfl⟩ hS
      · intro y fp0 hS hd
        try simp only [Act.put, List.setIfInBounds_toArray, List.set_cons_zero, List.set_cons_succ]
        refine FreeUpon.call (g := 143) (args := #[]) ?_ ((l6None_n y).mono fun e y' ⟨v', f', he, h1, h2, h3⟩ => ⟨v', f', he, h1, h2, h3, hS.trans (h3.mono hS.size)⟩)
        go_simp
    · intro vals fp y hS hb hf
      have Hf := Lib.hid hf
      clear hf hb
      have e0 : vals 0 = .agg #[.int .i64 x.xMe, .int .i64 x.xPeer, .int .i64 x.xSecret, .int .i64 x.xWish, .int .i64 x.xLast, .int .i64 x.xState, .int .i64 x.xTag, .int .i64 x.xPeerTag, .int .i64 x.xTsn, .int .i64 x.xPeerTsn, .int .i64 x.xStreams, .slice B x.xCookie.length d, .int .i64 x.xTries, .int .i64 x.xLeft] := (Hf.out.1 0 (by omega) rfl).1.1
      have o1 : OwL 195 4 EFrmPacket y (fp 1) (vals 1) [] := (Hf.out.1 1 (by omega) rfl).1
      have n1 : Nw w3.heap.size y.heap.size (fp 1) := (Hf.out.1 1 (by omega) rfl).2
      have O1 := Lib.hid o1
      have N1 := Lib.hid n1
      replace R := Lib.hid (R.out.keep hS)
      replace HB := Lib.hid (HB.out.trans (hS.mono HB.out.size))
      replace OX := Lib.hid (OX.out.below hS)
      have ZY := Lib.hid hS.size
      simp only [List.take_succ_cons, List.take_zero, List.drop_succ_cons, List.drop_zero, putAll, Act.put, List.setIfInBounds_toArray, List.set_cons_zero, List.set_cons_succ, e0]
      clear hS Hf e0 o1 n1
      go_wp2_with (refine wpList_store_blk rfl 67 (.tmp 6) (.tmp 20) rfl R.out _ rfl rfl rfl isz_AscEnd (by kernel_rfl) ?_; intro w9 kk9 ff9 ss9)
      refine bodyPost_ret (v := .tuple #[.agg #[.int .i64 x.xMe, .int .i64 x.xPeer, .int .i64 x.xSecret, .int .i64 x.xWish, .int .i64 x.xLast, .int .i64 x.xState, .int .i64 x.xTag, .int .i64 x.xPeerTag, .int .i64 x.xTsn, .int .i64 x.xPeerTsn, .int .i64 x.xStreams, .slice B x.xCookie.length d, .int .i64 x.xTries, .int .i64 x.xLeft], vals 1, .int .i64 2]) (results_row3 rfl rfl rfl rfl (load_blk 67 kk9 _ Try.underlying67 rfl isz_AscEnd)) rfl ?_
      refine ⟨_, vals 1, gx, fp 1, by rw [HK.out], by rw [HE.out]; exact ⟨_, _, rfl, OX.out.frl ff9 (fun b hb => by have := (NX.out.2 b hb).1; simp; omega), rfl⟩, by rw [HP.out]; exact OwL.frl EFrmPacket.framed EFrmPacket.inside O1.out ff9 (fun b hb => by have := (N1.out.2 b hb).1; have := ZW.out; have := Z2.out; simp; omega), ?_, below_frl1 HB.out (Nat.le_refl _) ff9 (by omega)⟩
      rw [ss9]
      exact (NX.out.mono (lo' := w.heap.size) (by omega) (Nat.le_refl _)).app (N1.out.mono (by have := ZW.out; omega) (Nat.le_refl _)) (by have := Z2.out; omega) (by have := ZW.out; have := ZY.out; omega)
  have k5 := K.out.at (i := 5) rfl
  by_cases h0 : x.xState = 3
  · have hb0 : (x.xState != 3) = false := by simp [h0]
    rcases hard with _ | _
    · skip
      obtain ⟨he, hp, hk⟩ := H_s.out hok hn h0 rfl
      have HE := Lib.hid he
      have HP := Lib.hid hp
      have HK := Lib.hid hk
      clear he hp hk
      clear h0
      have bS := (Below.refl w2.heap.size w2).alloc (Nat.le_refl _) (.cells #[.int .i64 x.xMe, .int .i64 x.xPeer, .int .i64 x.xSecret, .int .i64 x.xWish, .int .i64 x.xLast, .int .i64 4, .int .i64 x.xTag, .int .i64 x.xPeerTag, .int .i64 x.xTsn, .int .i64 at_, .int .i64 x.xStreams, .slice B x.xCookie.length d, .int .i64 x.xTries, .int .i64 3] 67)
      have X2 := Lib.hid (Blk.new (w := w2) (b := w2.heap.size) #[.int .i64 x.xMe, .int .i64 x.xPeer, .int .i64 x.xSecret, .int .i64 x.xWish, .int .i64 x.xLast, .int .i64 4, .int .i64 x.xTag, .int .i64 x.xPeerTag, .int .i64 x.xTsn, .int .i64 at_, .int .i64 x.xStreams, .slice B x.xCookie.length d, .int .i64 x.xTries, .int .i64 3] 67 rfl)
      have R2 := Lib.hid (Rw.out.keep bS)
      have O2 := Lib.hid (OXw.out.below bS)
      have HB2 := Lib.hid (HBw.out.trans (bS.mono (by have := Z2.out; omega)))
      have ZW := Lib.hid (show w2.heap.size + 1 ≤ (w2.alloc (.cells #[.int .i64 x.xMe, .int .i64 x.xPeer, .int .i64 x.xSecret, .int .i64 x.xWish, .int .i64 x.xLast, .int .i64 4, .int .i64 x.xTag, .int .i64 x.xPeerTag, .int .i64 x.xTsn, .int .i64 at_, .int .i64 x.xStreams, .slice B x.xCookie.length d, .int .i64 x.xTries, .int .i64 3] 67)).heap.size by simp)
      have ZS := Lib.hid (show (w2.alloc (.cells #[.int .i64 x.xMe, .int .i64 x.xPeer, .int .i64 x.xSecret, .int .i64 x.xWish, .int .i64 x.xLast, .int .i64 4, .int .i64 x.xTag, .int .i64 x.xPeerTag, .int .i64 x.xTsn, .int .i64 at_, .int .i64 x.xStreams, .slice B x.xCookie.length d, .int .i64 x.xTries, .int .i64 3] 67)).heap.size = (w2.alloc (.cells #[.int .i64 x.xMe, .int .i64 x.xPeer, .int .i64 x.xSecret, .int .i64 x.xWish, .int .i64 x.xLast, .int .i64 4, .int .i64 x.xTag, .int .i64 x.xPeerTag, .int .i64 x.xTsn, .int .i64 at_, .int .i64 x.xStreams, .slice B x.xCookie.length d, .int .i64 x.xTries, .int .i64 3] 67)).heap.size from rfl)
      clear bS
      go_wp2_with (first | (refine wpList_store_new _ rfl 67 (.tmp 9) (.tmp 16) rfl rfl rfl isz_AscEnd rfl (by kernel_rfl) ?_) | (go_at_call 145; refine (l4Long_any _ _).mono ?_; rintro e w' ⟨rfl, rfl⟩; rw [hn]))
      clear k5 K X R OX HB
      generalize World.alloc w2 (.cells #[.int .i64 x.xMe, .int .i64 x.xPeer, .int .i64 x.xSecret, .int .i64 x.xWish, .int .i64 x.xLast, .int .i64 4, .int .i64 x.xTag, .int .i64 x.xPeerTag, .int .i64 x.xTsn, .int .i64 at_, .int .i64 x.xStreams, .slice B x.xCookie.length d, .int .i64 x.xTries, .int .i64 3] 67) = w4 at *
      refine wp_region_free 7 (fun y => Below w4.heap.size w4 y) (fun vals i v y f => match i with | 0 => v = .agg #[.int .i64 x.xMe, .int .i64 x.xPeer, .int .i64 x.xSecret, .int .i64 x.xWish, .int .i64 x.xLast, .int .i64 4, .int .i64 x.xTag, .int .i64 x.xPeerTag, .int .i64 x.xTsn, .int .i64 at_, .int .i64 x.xStreams, .slice B x.xCookie.length d, .int .i64 x.xTries, .int .i64 3] ∧ f = [] | 1 => v = .agg #[.int .i64 x.xMe, .int .i64 x.xPeer, .int .i64 x.xSecret, .int .i64 x.xWish, .int .i64 x.xLast, .int .i64 4, .int .i64 x.xTag, .int .i64 x.xPeerTag, .int .i64 x.xTsn, .int .i64 at_, .int .i64 x.xStreams, .slice B x.xCookie.length d, .int .i64 x.xTries, .int .i64 3] ∧ f = [] | 2 => v = .pointer (some ⟨w2.heap.size, 7, none⟩) ∧ f = [] | 3 => v = .int .i64 x.xPeerTag ∧ f = [] | 4 => v = .int .i64 at_ ∧ f = [] | 5 => v = .agg #[.int .i64 7, .int .i64 0, .int .i64 0, .int .i64 at_, .int .i64 0, .int .i64 0, .int .i64 0, .int .i64 0, .slice none 0 0, .slice none 0 0, .slice none 0 0] ∧ f = [] | 6 => OwL 195 4 EFrmPacket y f v sP | _ => False) (fun i => i) (by kernel_rfl) (by kernel_rfl) ?_ ?_ (Below.refl _ _).drew ?_ ?_
      · intro _ i v y y' f h hb
        match i, h with
        | 0, h => exact h
        | 1, h => exact h
        | 2, h => exact h
        | 3, h => exact h
        | 4, h => exact h
        | 5, h => exact h
        | 6, h => exact OwL.below EFrmPacket.framed EFrmPacket.inside h hb
      · intro vals vals' i o v y f ho hd h
        match i, h with
        | 0, h => exact h
        | 1, h => exact h
        | 2, h => exact h
        | 3, h => exact h
        | 4, h => exact h
        | 5, h => exact h
        | 6, h => exact h
      · intro vals
        simp only [List.take_succ_cons, List.take_zero, Steps]
        refine ⟨?_, ?_, ?_, ?_, ?_, ?_, ?_, trivial⟩
        · intro y fp0 hS hd
          try simp only [Act.put, List.setIfInBounds_toArray, List.set_cons_zero, List.set_cons_succ]
          exact FreeUpon.pure (.agg #[.int .i64 x.xMe, .int .i64 x.xPeer, .int .i64 x.xSecret, .int .i64 x.xWish, .int .i64 x.xLast, .int .i64 4, .int .i64 x.xTag, .int .i64 x.xPeerTag, .int .i64 x.xTsn, .int .i64 at_, .int .i64 x.xStreams, .slice B x.xCookie.length d, .int .i64 x.xTries, .int .i64 3]) (exec_load_blk 67 (.tmp 9) rfl (X2.out.keep hS) rfl _ Try.underlying67 rfl isz_AscEnd) ⟨rfl, rfl⟩ hS
        · intro y fp0 hS hd
          try simp only [Act.put, List.setIfInBounds_toArray, List.set_cons_zero, List.set_cons_succ]
          exact FreeUpon.pure (.agg #[.int .i64 x.xMe, .int .i64 x.xPeer, .int .i64 x.xSecret, .int .i64 x.xWish, .int .i64 x.xLast, .int .i64 4, .int .i64 x.xTag, .int .i64 x.xPeerTag, .int .i64 x.xTsn, .int .i64 at_, .int .i64 x.xStreams, .slice B x.xCookie.length d, .int .i64 x.xTries, .int .i64 3]) (exec_load_blk 67 (.tmp 9) rfl (X2.out.keep hS) rfl _ Try.underlying67 rfl isz_AscEnd) ⟨rfl, rfl⟩ hS
        · intro y fp0 hS hd
          try simp only [Act.put, List.setIfInBounds_toArray, List.set_cons_zero, List.set_cons_succ]
          refine FreeUpon.pure (.pointer (some ⟨w2.heap.size, 7, none⟩)) ?_ ⟨rfl, rfl⟩ hS
          go_simp
        · intro y fp0 hS hd
          try simp only [Act.put, List.setIfInBounds_toArray, List.set_cons_zero, List.set_cons_succ]
          obtain ⟨⟨hp2, _⟩, _⟩ := hd { on := 2, ground := Ground.data } (by simp) (by kernel_rfl)
          simp only at hp2
          have kk := (X2.out.keep hS).at (i := 7) rfl
          refine FreeUpon.pure (.int .i64 x.xPeerTag) ?_ ⟨rfl, rfl⟩ hS
          go_simp
        · intro y fp0 hS hd
          try simp only [Act.put, List.setIfInBounds_toArray, List.set_cons_zero, List.set_cons_succ]
          refine FreeUpon.pure (.int .i64 at_) ?_ ⟨rfl, rfl⟩ hS
          go_simp
        · intro y fp0 hS hd
          try simp only [Act.put, List.setIfInBounds_toArray, List.set_cons_zero, List.set_cons_succ]
          obtain ⟨⟨hp4, _⟩, _⟩ := hd { on := 4, ground := Ground.data } (by simp) (by kernel_rfl)
          simp only at hp4
          refine FreeUpon.pure (.agg #[.int .i64 7, .int .i64 0, .int .i64 0, .int .i64 at_, .int .i64 0, .int .i64 0, .int .i64 0, .int .i64 0, .slice none 0 0, .slice none 0 0, .slice none 0 0]) ?_ ⟨rfl, rfl⟩ hS
          go_simp
        · intro y fp0 hS hd
          try simp only [Act.put, List.setIfInBounds_toArray, List.set_cons_zero, List.set_cons_succ]
          obtain ⟨⟨hp1, _⟩, _⟩ := hd { on := 1, ground := Ground.data } (by simp) (by kernel_rfl)
          simp only at hp1
          obtain ⟨⟨hp3, _⟩, _⟩ := hd { on := 3, ground := Ground.data } (by simp) (by kernel_rfl)
          simp only at hp3
          obtain ⟨⟨hp5, _⟩, _⟩ := hd { on := 5, ground := Ground.data } (by simp) (by kernel_rfl)
          simp only at hp5
          refine FreeUpon.call (g := 147) (args := #[.agg #[.int .i64 x.xMe, .int .i64 x.xPeer, .int .i64 x.xSecret, .int .i64 x.xWish, .int .i64 x.xLast, .int .i64 4, .int .i64 x.xTag, .int .i64 x.xPeerTag, .int .i64 x.xTsn, .int .i64 at_, .int .i64 x.xStreams, .slice B x.xCookie.length d, .int .i64 x.xTries, .int .i64 3], .int .i64 x.xPeerTag, .agg #[.int .i64 7, .int .i64 0, .int .i64 0, .int .i64 at_, .int .i64 0, .int .i64 0, .int .i64 0, .int .i64 0, .slice none 0 0, .slice none 0 0, .slice none 0 0]]) ?_ ((l6Frame_n (shutE x at_) (.slice B x.xCookie.length d) x.xPeerTag [.int .i64 7, .int .i64 0, .int .i64 0, .int .i64 at_, .int .i64 0, .int .i64 0, .int .i64 0, .int .i64 0, .slice none 0 0, .slice none 0 0, .slice none 0 0] (shutC at_) [] y y.heap.size (shutC_e _ _) (Nw.nil _ _) (Nat.le_refl _)).mono fun e y' ⟨v', f', he, h1, h2, h3⟩ => ⟨v', f', he, by rw [HP.out]; exact h1, h2, h3, hS.trans (h3.mono hS.size)⟩)
          go_simp
      · intro vals fp y hS hb hf
        have Hf := Lib.hid hf
        clear hf hb
        have e0 : vals 0 = .agg #[.int .i64 x.xMe, .int .i64 x.xPeer, .int .i64 x.xSecret, .int .i64 x.xWish, .int .i64 x.xLast, .int .i64 4, .int .i64 x.xTag, .int .i64 x.xPeerTag, .int .i64 x.xTsn, .int .i64 at_, .int .i64 x.xStreams, .slice B x.xCookie.length d, .int .i64 x.xTries, .int .i64 3] := (Hf.out.1 0 (by omega) rfl).1.1
        have e1 : vals 1 = .agg #[.int .i64 x.xMe, .int .i64 x.xPeer, .int .i64 x.xSecret, .int .i64 x.xWish, .int .i64 x.xLast, .int .i64 4, .int .i64 x.xTag, .int .i64 x.xPeerTag, .int .i64 x.xTsn, .int .i64 at_, .int .i64 x.xStreams, .slice B x.xCookie.length d, .int .i64 x.xTries, .int .i64 3] := (Hf.out.1 1 (by omega) rfl).1.1
        have e2 : vals 2 = .pointer (some ⟨w2.heap.size, 7, none⟩) := (Hf.out.1 2 (by omega) rfl).1.1
        have e3 : vals 3 = .int .i64 x.xPeerTag := (Hf.out.1 3 (by omega) rfl).1.1
        have e4 : vals 4 = .int .i64 at_ := (Hf.out.1 4 (by omega) rfl).1.1
        have e5 : vals 5 = .agg #[.int .i64 7, .int .i64 0, .int .i64 0, .int .i64 at_, .int .i64 0, .int .i64 0, .int .i64 0, .int .i64 0, .slice none 0 0, .slice none 0 0, .slice none 0 0] := (Hf.out.1 5 (by omega) rfl).1.1
        have o1 : OwL 195 4 EFrmPacket y (fp 6) (vals 6) sP := (Hf.out.1 6 (by omega) rfl).1
        have n1 : Nw w4.heap.size y.heap.size (fp 6) := (Hf.out.1 6 (by omega) rfl).2
        have O1 := Lib.hid o1
        have N1 := Lib.hid n1
        replace R2 := Lib.hid (R2.out.keep hS)
        replace HB2 := Lib.hid (HB2.out.trans (hS.mono HB2.out.size))
        replace O2 := Lib.hid (O2.out.below hS)
        have ZY := Lib.hid hS.size
        simp only [List.take_succ_cons, List.take_zero, List.drop_succ_cons, List.drop_zero, putAll, Act.put, List.setIfInBounds_toArray, List.set_cons_zero, List.set_cons_succ, e0, e1, e2, e3, e4, e5]
        clear hS Hf e0 e1 e2 e3 e4 e5 o1 n1
        go_wp2_with (refine wpList_store_blk rfl 67 (.tmp 6) (.tmp 39) rfl R2.out _ rfl rfl rfl isz_AscEnd (by kernel_rfl) ?_; intro w9 kk9 ff9 ss9)
        refine bodyPost_ret (v := .tuple #[.agg #[.int .i64 x.xMe, .int .i64 x.xPeer, .int .i64 x.xSecret, .int .i64 x.xWish, .int .i64 x.xLast, .int .i64 4, .int .i64 x.xTag, .int .i64 x.xPeerTag, .int .i64 x.xTsn, .int .i64 at_, .int .i64 x.xStreams, .slice B x.xCookie.length d, .int .i64 x.xTries, .int .i64 3], vals 6, .int .i64 0]) (results_row3 rfl rfl rfl rfl (load_blk 67 kk9 _ Try.underlying67 rfl isz_AscEnd)) rfl ?_
        refine ⟨_, vals 6, gx, fp 6, by rw [HK.out], by rw [HE.out]; exact ⟨_, _, rfl, O2.out.frl ff9 (fun b hb => by have := (NX.out.2 b hb).1; simp; omega), rfl⟩, OwL.frl EFrmPacket.framed EFrmPacket.inside O1.out ff9 (fun b hb => by have := (N1.out.2 b hb).1; have := ZW.out; have := ZS.out; have := Z2.out; simp; omega), ?_, below_frl1 HB2.out (Nat.le_refl _) ff9 (by omega)⟩
        rw [ss9]
        exact (NX.out.mono (lo' := w.heap.size) (by omega) (Nat.le_refl _)).app (N1.out.mono (by have := ZW.out; have := ZS.out; omega) (Nat.le_refl _)) (by have := Z2.out; omega) (by have := ZW.out; have := ZS.out; have := ZY.out; omega)
    · skip
      obtain ⟨he, hp, hk⟩ := H_h.out hok hn h0 rfl
      have HE := Lib.hid he
      have HP := Lib.hid hp
      have HK := Lib.hid hk
      clear he hp hk
      clear h0
      go_wp2_with (first | (refine wpList_store_new _ rfl 67 (.tmp 9) (.tmp 16) rfl rfl rfl isz_AscEnd rfl (by kernel_rfl) ?_) | (go_at_call 145; refine (l4Long_any _ _).mono ?_; rintro e w' ⟨rfl, rfl⟩; rw [hn]))
      clear k5
      generalize World.alloc w2 _ = w3 at *
      have ZW := Lib.hid (show w2.heap.size + 1 ≤ w3.heap.size from Nat.le_of_eq Z3.out)
      refine wp_region_free 7 (fun y => Below w3.heap.size w3 y) (fun vals i v y f => match i with | 0 => v = .agg #[.int .i64 x.xMe, .int .i64 x.xPeer, .int .i64 x.xSecret, .int .i64 x.xWish, .int .i64 x.xLast, .int .i64 x.xState, .int .i64 x.xTag, .int .i64 x.xPeerTag, .int .i64 x.xTsn, .int .i64 x.xPeerTsn, .int .i64 x.xStreams, .slice B x.xCookie.length d, .int .i64 x.xTries, .int .i64 x.xLeft] ∧ f = [] | 1 => ∃ cs, v = .agg cs.toArray ∧ EAscEnd y f cs (bareF x) | 2 => v = .agg #[.int .i64 x.xMe, .int .i64 x.xPeer, .int .i64 x.xSecret, .int .i64 x.xWish, .int .i64 x.xLast, .int .i64 x.xState, .int .i64 x.xTag, .int .i64 x.xPeerTag, .int .i64 x.xTsn, .int .i64 x.xPeerTsn, .int .i64 x.xStreams, .slice B x.xCookie.length d, .int .i64 x.xTries, .int .i64 x.xLeft] ∧ f = [] | 3 => v = .pointer (some ⟨w2.heap.size, 7, none⟩) ∧ f = [] | 4 => v = .int .i64 x.xPeerTag ∧ f = [] | 5 => v = .agg #[.int .i64 6, .int .i64 0, .int .i64 0, .int .i64 0, .int .i64 0, .int .i64 0, .int .i64 0, .int .i64 0, .slice none 0 0, .slice none 0 0, .slice none 0 0] ∧ f = [] | 6 => OwL 195 4 EFrmPacket y f v sP | _ => False) (fun i => i) (by kernel_rfl) (by kernel_rfl) ?_ ?_ (Below.refl _ _).drew ?_ ?_
      · intro _ i v y y' f h hb
        match i, h with
        | 0, h => exact h
        | 1, h => (obtain ⟨cs, h1, h2⟩ := h; exact ⟨cs, h1, EAscEnd.framed _ _ _ _ _ h2 (fun b hb' => hb.block b (EAscEnd.inside _ _ _ _ h2 b hb'))⟩)
        | 2, h => exact h
        | 3, h => exact h
        | 4, h => exact h
        | 5, h => exact h
        | 6, h => exact OwL.below EFrmPacket.framed EFrmPacket.inside h hb
      · intro vals vals' i o v y f ho hd h
        match i, h with
        | 0, h => exact h
        | 1, h => exact h
        | 2, h => exact h
        | 3, h => exact h
        | 4, h => exact h
        | 5, h => exact h
        | 6, h => exact h
      · intro vals
        simp only [List.take_succ_cons, List.take_zero, Steps]
        refine ⟨?_, ?_, ?_, ?_, ?_, ?_, ?_, trivial⟩
        · intro y fp0 hS hd
          try simp only [Act.put, List.setIfInBounds_toArray, List.set_cons_zero, List.set_cons_succ]
          exact FreeUpon.pure (.agg #[.int .i64 x.xMe, .int .i64 x.xPeer, .int .i64 x.xSecret, .int .i64 x.xWish, .int .i64 x.xLast, .int .i64 x.xState, .int .i64 x.xTag, .int .i64 x.xPeerTag, .int .i64 x.xTsn, .int .i64 x.xPeerTsn, .int .i64 x.xStreams, .slice B x.xCookie.length d, .int .i64 x.xTries, .int .i64 x.xLeft]) (exec_load_blk 67 (.tmp 9) rfl (X.out.keep hS) rfl _ Try.underlying67 rfl isz_AscEnd) ⟨rfl, rfl⟩ hS
        · intro y fp0 hS hd
          try simp only [Act.put, List.setIfInBounds_toArray, List.set_cons_zero, List.set_cons_succ]
          obtain ⟨⟨hp0, _⟩, _⟩ := hd { on := 0, ground := Ground.data } (by simp) (by kernel_rfl)
          simp only at hp0
          refine FreeUpon.call (g := 146) (args := #[.agg #[.int .i64 x.xMe, .int .i64 x.xPeer, .int .i64 x.xSecret, .int .i64 x.xWish, .int .i64 x.xLast, .int .i64 x.xState, .int .i64 x.xTag, .int .i64 x.xPeerTag, .int .i64 x.xTsn, .int .i64 x.xPeerTsn, .int .i64 x.xStreams, .slice B x.xCookie.length d, .int .i64 x.xTries, .int .i64 x.xLeft]]) ?_ ((l6Closed_n x (.slice B x.xCookie.length d) y).mono fun e y' ⟨cs', f', he, h1, h2, h3⟩ => ⟨.agg cs'.toArray, f', he, ⟨cs', rfl, h1⟩, h2, h3, hS.trans (h3.mono hS.size)⟩)
          go_simp
        · intro y fp0 hS hd
          try simp only [Act.put, List.setIfInBounds_toArray, List.set_cons_zero, List.set_cons_succ]
          exact FreeUpon.pure (.agg #[.int .i64 x.xMe, .int .i64 x.xPeer, .int .i64 x.xSecret, .int .i64 x.xWish, .int .i64 x.xLast, .int .i64 x.xState, .int .i64 x.xTag, .int .i64 x.xPeerTag, .int .i64 x.xTsn, .int .i64 x.xPeerTsn, .int .i64 x.xStreams, .slice B x.xCookie.length d, .int .i64 x.xTries, .int .i64 x.xLeft]) (exec_load_blk 67 (.tmp 9) rfl (X.out.keep hS) rfl _ Try.underlying67 rfl isz_AscEnd) ⟨rfl, rfl⟩ hS
        · intro y fp0 hS hd
          try simp only [Act.put, List.setIfInBounds_toArray, List.set_cons_zero, List.set_cons_succ]
          refine FreeUpon.pure (.pointer (some ⟨w2.heap.size, 7, none⟩)) ?_ ⟨rfl, rfl⟩ hS
          go_simp
        · intro y fp0 hS hd
          try simp only [Act.put, List.setIfInBounds_toArray, List.set_cons_zero, List.set_cons_succ]
          obtain ⟨⟨hp3, _⟩, _⟩ := hd { on := 3, ground := Ground.data } (by simp) (by kernel_rfl)
          simp only at hp3
          have kk := (X.out.keep hS).at (i := 7) rfl
          refine FreeUpon.pure (.int .i64 x.xPeerTag) ?_ ⟨rfl, rfl⟩ hS
          go_simp
        · intro y fp0 hS hd
          try simp only [Act.put, List.setIfInBounds_toArray, List.set_cons_zero, List.set_cons_succ]
          refine FreeUpon.pure (.agg #[.int .i64 6, .int .i64 0, .int .i64 0, .int .i64 0, .int .i64 0, .int .i64 0, .int .i64 0, .int .i64 0, .slice none 0 0, .slice none 0 0, .slice none 0 0]) ?_ ⟨rfl, rfl⟩ hS
          go_simp
        · intro y fp0 hS hd
          try simp only [Act.put, List.setIfInBounds_toArray, List.set_cons_zero, List.set_cons_succ]
          obtain ⟨⟨hp2, _⟩, _⟩ := hd { on := 2, ground := Ground.data } (by simp) (by kernel_rfl)
          simp only at hp2
          obtain ⟨⟨hp4, _⟩, _⟩ := hd { on := 4, ground := Ground.data } (by simp) (by kernel_rfl)
          simp only at hp4
          obtain ⟨⟨hp5, _⟩, _⟩ := hd { on := 5, ground := Ground.data } (by simp) (by kernel_rfl)
          simp only at hp5
          refine FreeUpon.call (g := 147) (args := #[.agg #[.int .i64 x.xMe, .int .i64 x.xPeer, .int .i64 x.xSecret, .int .i64 x.xWish, .int .i64 x.xLast, .int .i64 x.xState, .int .i64 x.xTag, .int .i64 x.xPeerTag, .int .i64 x.xTsn, .int .i64 x.xPeerTsn, .int .i64 x.xStreams, .slice B x.xCookie.length d, .int .i64 x.xTries, .int .i64 x.xLeft], .int .i64 x.xPeerTag, .agg #[.int .i64 6, .int .i64 0, .int .i64 0, .int .i64 0, .int .i64 0, .int .i64 0, .int .i64 0, .int .i64 0, .slice none 0 0, .slice none 0 0, .slice none 0 0]]) ?_ ((l6Frame_n x (.slice B x.xCookie.length d) x.xPeerTag [.int .i64 6, .int .i64 0, .int .i64 0, .int .i64 0, .int .i64 0, .int .i64 0, .int .i64 0, .int .i64 0, .slice none 0 0, .slice none 0 0, .slice none 0 0] abortC [] y y.heap.size (abortC_e _) (Nw.nil _ _) (Nat.le_refl _)).mono fun e y' ⟨v', f', he, h1, h2, h3⟩ => ⟨v', f', he, by rw [HP.out]; exact h1, h2, h3, hS.trans (h3.mono hS.size)⟩)
          go_simp
      · intro vals fp y hS hb hf
        have Hf := Lib.hid hf
        clear hf hb
        have e0 : vals 0 = .agg #[.int .i64 x.xMe, .int .i64 x.xPeer, .int .i64 x.xSecret, .int .i64 x.xWish, .int .i64 x.xLast, .int .i64 x.xState, .int .i64 x.xTag, .int .i64 x.xPeerTag, .int .i64 x.xTsn, .int .i64 x.xPeerTsn, .int .i64 x.xStreams, .slice B x.xCookie.length d, .int .i64 x.xTries, .int .i64 x.xLeft] := (Hf.out.1 0 (by omega) rfl).1.1
        have e2 : vals 2 = .agg #[.int .i64 x.xMe, .int .i64 x.xPeer, .int .i64 x.xSecret, .int .i64 x.xWish, .int .i64 x.xLast, .int .i64 x.xState, .int .i64 x.xTag, .int .i64 x.xPeerTag, .int .i64 x.xTsn, .int .i64 x.xPeerTsn, .int .i64 x.xStreams, .slice B x.xCookie.length d, .int .i64 x.xTries, .int .i64 x.xLeft] := (Hf.out.1 2 (by omega) rfl).1.1
        have e3 : vals 3 = .pointer (some ⟨w2.heap.size, 7, none⟩) := (Hf.out.1 3 (by omega) rfl).1.1
        have e4 : vals 4 = .int .i64 x.xPeerTag := (Hf.out.1 4 (by omega) rfl).1.1
        have e5 : vals 5 = .agg #[.int .i64 6, .int .i64 0, .int .i64 0, .int .i64 0, .int .i64 0, .int .i64 0, .int .i64 0, .int .i64 0, .slice none 0 0, .slice none 0 0, .slice none 0 0] := (Hf.out.1 5 (by omega) rfl).1.1
        obtain ⟨c1, e1, E1⟩ : ∃ cs, vals 1 = .agg cs.toArray ∧ EAscEnd y (fp 1) cs (bareF x) := (Hf.out.1 1 (by omega) rfl).1
        have o6 : OwL 195 4 EFrmPacket y (fp 6) (vals 6) sP := (Hf.out.1 6 (by omega) rfl).1
        have n1 : Nw w3.heap.size y.heap.size (fp 1) := (Hf.out.1 1 (by omega) rfl).2
        have n6 : Nw w3.heap.size y.heap.size (fp 6) := (Hf.out.1 6 (by omega) rfl).2
        have D16 := Lib.hid (show ∀ c ∈ fp 1, c ∉ fp 6 from fun c hc => Hf.out.2 1 6 (by omega) (by omega) (by decide) rfl rfl c hc)
        obtain ⟨v1, g1, rfl, p1, hg1⟩ := E1
        obtain ⟨B1, d1, rfl⟩ := p1.rd.slice
        have P1 := Lib.hid p1
        have O6 := Lib.hid o6
        have N1 := Lib.hid n1
        have N6 := Lib.hid n6
        have G1 := Lib.hid hg1
        replace R := Lib.hid (R.out.keep hS)
        replace HB := Lib.hid (HB.out.trans (hS.mono HB.out.size))
        have ZY := Lib.hid hS.size
        simp only [List.take_succ_cons, List.take_zero, List.drop_succ_cons, List.drop_zero, putAll, Act.put, List.setIfInBounds_toArray, List.set_cons_zero, List.set_cons_succ, e0, e1, e2, e3, e4, e5]
        clear hS Hf e0 e1 e2 e3 e4 e5 p1 o6 n1 n6 hg1
        go_wp2_with (refine wpList_store_blk rfl 67 (.tmp 6) (.tmp 29) rfl R.out _ rfl rfl rfl isz_AscEnd (by kernel_rfl) ?_; intro w9 kk9 ff9 ss9)
        refine bodyPost_ret (v := .tuple #[.agg #[.int .i64 (bareF x).xMe, .int .i64 (bareF x).xPeer, .int .i64 (bareF x).xSecret, .int .i64 (bareF x).xWish, .int .i64 (bareF x).xLast, .int .i64 (bareF x).xState, .int .i64 (bareF x).xTag, .int .i64 (bareF x).xPeerTag, .int .i64 (bareF x).xTsn, .int .i64 (bareF x).xPeerTsn, .int .i64 (bareF x).xStreams, .slice B1 (bareF x).xCookie.length d1, .int .i64 (bareF x).xTries, .int .i64 (bareF x).xLeft], vals 6, .int .i64 0]) (results_row3 rfl rfl rfl rfl (load_blk 67 kk9 _ Try.underlying67 rfl isz_AscEnd)) rfl ?_
        refine ⟨_, vals 6, fp 1, fp 6, by rw [HK.out], by rw [HE.out]; exact ⟨_, g1, rfl, P1.out.frl ff9 (fun b hb => by have := (N1.out.2 b (by rw [G1.out]; exact hb)).1; have := ZW.out; have := Z2.out; simp; omega), G1.out⟩, OwL.frl EFrmPacket.framed EFrmPacket.inside O6.out ff9 (fun b hb => by have := (N6.out.2 b hb).1; have := ZW.out; have := Z2.out; simp; omega), ?_, below_frl1 HB.out (Nat.le_refl _) ff9 (by omega)⟩
        rw [ss9]
        exact (N1.out.join N6.out D16.out).mono (by have := ZW.out; have := Z2.out; omega) (Nat.le_refl _)
  · have hb0 : (x.xState == 3) = false := by simpa using h0
    obtain ⟨he, hp, hk⟩ := H_3.out hok hn h0
    have HE := Lib.hid he
    have HP := Lib.hid hp
    have HK := Lib.hid hk
    clear he hp hk
    have hbn : (x.xState != 3) = true := by simp [hb0, bne]
    clear h0
    go_wp2_with (first | (refine wpList_store_new _ rfl 67 (.tmp 9) (.tmp 16) rfl rfl rfl isz_AscEnd rfl (by kernel_rfl) ?_) | (go_at_call 145; refine (l4Long_any _ _).mono ?_; rintro e w' ⟨rfl, rfl⟩; rw [hn]))
    clear k5
    generalize World.alloc w2 _ = w3 at *
    have ZW := Lib.hid (show w2.heap.size + 1 ≤ w3.heap.size from Nat.le_of_eq Z3.out)
    refine wp_region_free 2 (fun y => Below w3.heap.size w3 y) (fun vals i v y f => match i with | 0 => v = .agg #[.int .i64 x.xMe, .int .i64 x.xPeer, .int .i64 x.xSecret, .int .i64 x.xWish, .int .i64 x.xLast, .int .i64 x.xState, .int .i64 x.xTag, .int .i64 x.xPeerTag, .int .i64 x.xTsn, .int .i64 x.xPeerTsn, .int .i64 x.xStreams, .slice B x.xCookie.length d, .int .i64 x.xTries, .int .i64 x.xLeft] ∧ f = [] | 1 => OwL 195 4 EFrmPacket y f v [] | _ => False) (fun i => i) (by kernel_rfl) (by kernel_rfl) ?_ ?_ (Below.refl _ _).drew ?_ ?_
    · intro _ i v y y' f h hb
      match i, h with
      | 0, h => exact h
      | 1, h => exact OwL.below EFrmPacket.framed EFrmPacket.inside h hb
    · intro vals vals' i o v y f ho hd h
      match i, h with
      | 0, h => exact h
      | 1, h => exact h
    · intro vals
      simp only [List.take_succ_cons, List.take_zero, Steps]
      refine ⟨?_, ?_, trivial⟩
      · intro y fp0 hS hd
        try simp only [Act.put, List.setIfInBounds_toArray, List.set_cons_zero, List.set_cons_succ]
        exact FreeUpon.pure (.agg #[.int .i64 x.xMe, .int .i64 x.xPeer, .int .i64 x.xSecret, .int .i64 x.xWish, .int .i64 x.xLast, .int .i64 x.xState, .int .i64 x.xTag, .int .i64 x.xPeerTag, .int .i64 x.xTsn, .int .i64 x.xPeerTsn, .int .i64 x.xStreams, .slice B x.xCookie.length d, .int .i64 x.xTries, .int .i64 x.xLeft]) (exec_load_blk 67 (.tmp 9) rfl (X.out.keep hS) rfl _ Try.underlying67 rfl isz_AscEnd) ⟨rfl, rfl⟩ hS
      · intro y fp0 hS hd
        try simp only [Act.put, List.setIfInBounds_toArray, List.set_cons_zero, List.set_cons_succ]
        refine FreeUpon.call (g := 143) (args := #[]) ?_ ((l6None_n y).mono fun e y' ⟨v', f', he, h1, h2, h3⟩ => ⟨v', f', he, h1, h2, h3, hS.trans (h3.mono hS.size)⟩)
        go_simp
    · intro vals fp y hS hb hf
      have Hf := Lib.hid hf
      clear hf hb
      have e0 : vals 0 = .agg #[.int .i64 x.xMe, .int .i64 x.xPeer, .int .i64 x.xSecret, .int .i64 x.xWish, .int .i64 x.xLast, .int .i64 x.xState, .int .i64 x.xTag, .int .i64 x.xPeerTag, .int .i64 x.xTsn, .int .i64 x.xPeerTsn, .int .i64 x.xStreams, .slice B x.xCookie.length d, .int .i64 x.xTries, .int .i64 x.xLeft] := (Hf.out.1 0 (by omega) rfl).1.1
      have o1 : OwL 195 4 EFrmPacket y (fp 1) (vals 1) [] := (Hf.out.1 1 (by omega) rfl).1
      have n1 : Nw w3.heap.size y.heap.size (fp 1) := (Hf.out.1 1 (by omega) rfl).2
      have O1 := Lib.hid o1
      have N1 := Lib.hid n1
      replace R := Lib.hid (R.out.keep hS)
      replace HB := Lib.hid (HB.out.trans (hS.mono HB.out.size))
      replace OX := Lib.hid (OX.out.below hS)
      have ZY := Lib.hid hS.size
      simp only [List.take_succ_cons, List.take_zero, List.drop_succ_cons, List.drop_zero, putAll, Act.put, List.setIfInBounds_toArray, List.set_cons_zero, List.set_cons_succ, e0]
      clear hS Hf e0 o1 n1
      go_wp2_with (refine wpList_store_blk rfl 67 (.tmp 6) (.tmp 25) rfl R.out _ rfl rfl rfl isz_AscEnd (by kernel_rfl) ?_; intro w9 kk9 ff9 ss9)
      refine bodyPost_ret (v := .tuple #[.agg #[.int .i64 x.xMe, .int .i64 x.xPeer, .int .i64 x.xSecret, .int .i64 x.xWish, .int .i64 x.xLast, .int .i64 x.xState, .int .i64 x.xTag, .int .i64 x.xPeerTag, .int .i64 x.xTsn, .int .i64 x.xPeerTsn, .int .i64 x.xStreams, .slice B x.xCookie.length d, .int .i64 x.xTries, .int .i64 x.xLeft], vals 1, .int .i64 3]) (results_row3 rfl rfl rfl rfl (load_blk 67 kk9 _ Try.underlying67 rfl isz_AscEnd)) rfl ?_
      refine ⟨_, vals 1, gx, fp 1, by rw [HK.out], by rw [HE.out]; exact ⟨_, _, rfl, OX.out.frl ff9 (fun b hb => by have := (NX.out.2 b hb).1; simp; omega), rfl⟩, by rw [HP.out]; exact OwL.frl EFrmPacket.framed EFrmPacket.inside O1.out ff9 (fun b hb => by have := (N1.out.2 b hb).1; have := ZW.out; have := Z2.out; simp; omega), ?_, below_frl1 HB.out (Nat.le_refl _) ff9 (by omega)⟩
      rw [ss9]
      exact (NX.out.mono (lo' := w.heap.size) (by omega) (Nat.le_refl _)).app (N1.out.mono (by have := ZW.out; omega) (Nat.le_refl _)) (by have := Z2.out; omega) (by have := ZW.out; have := ZY.out; omega)
end Go.Proofs.Ythdjjgbjemaabaa
