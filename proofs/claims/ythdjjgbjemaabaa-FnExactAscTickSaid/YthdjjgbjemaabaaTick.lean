/-
  AscTick of both programs. (Written by wip/tools/gentick.py.)
-/
import Derived.Test.YthdjjgbjemaabaaTickS
import Derived.Test.YthdjjgbjemaabaaTickI
namespace Go.Proofs.Ythdjjgbjemaabaa
open Go.ChangeShapes Go.WideShapes Go.ChangeAt Go.RowKit
set_option linter.unusedVariables false
set_option linter.unusedSimpArgs false

theorem tell_any (T : TypeId) (k : Int) (hT : T = 268 ∧ k = 0 ∨ T = 320 ∧ k = 3) (x : DAscEnd) (B : Option Addr) (q d : Nat) (S : Option Addr) (n c : Nat) (w : World) : Calls Try.prog 164 #[.iface T (.agg #[.int .i64 x.xMe, .int .i64 x.xPeer, .int .i64 x.xSecret, .int .i64 x.xWish, .int .i64 x.xLast, .int .i64 x.xState, .int .i64 x.xTag, .int .i64 x.xPeerTag, .int .i64 x.xTsn, .int .i64 x.xPeerTsn, .int .i64 x.xStreams, .slice B q d, .int .i64 x.xTries, .int .i64 x.xLeft, .slice S n c])] w fun e w' => e = .returned (.tuple #[.agg #[.int .i64 x.xMe, .int .i64 x.xPeer, .int .i64 x.xSecret, .int .i64 x.xWish, .int .i64 x.xLast, .int .i64 x.xState, .int .i64 x.xTag, .int .i64 x.xPeerTag, .int .i64 x.xTsn, .int .i64 x.xPeerTsn, .int .i64 x.xStreams, .slice B q d, .int .i64 x.xTries, .int .i64 x.xLeft], .slice S n c, .int .i64 k]) ∧ Below w.heap.size w w' := by
  rcases hT with ⟨h1, h2⟩ | ⟨h1, h2⟩
  · rw [h1, h2]; exact tell_turn x B q d S n c w
  · rw [h1, h2]; exact tell_loss x B q d S n c w
set_option maxRecDepth 100000 in
theorem ascTick_p (x : DAscEnd) (B : Option Addr) (d : Nat) (w : World) (lo : Nat) (f0 : List Nat) (hok : ascOk x = true) (hv : OwBy w f0 (.slice B x.xCookie.length d) x.xCookie) (hn : Nw lo w.heap.size f0) (hlo : lo ≤ w.heap.size) : Calls Try.prog 165 #[.agg #[.int .i64 x.xMe, .int .i64 x.xPeer, .int .i64 x.xSecret, .int .i64 x.xWish, .int .i64 x.xLast, .int .i64 x.xState, .int .i64 x.xTag, .int .i64 x.xPeerTag, .int .i64 x.xTsn, .int .i64 x.xPeerTsn, .int .i64 x.xStreams, .slice B x.xCookie.length d, .int .i64 x.xTries, .int .i64 x.xLeft]] w fun e w' => ∃ (T : TypeId) (k : Int) (E' : DAscEnd) (B1 : Option Addr) (q1 d1 : Nat) (S : Option Addr) (n c : Nat) (f1 f2 : List Nat), e = .returned (.iface T (.agg #[.int .i64 E'.xMe, .int .i64 E'.xPeer, .int .i64 E'.xSecret, .int .i64 E'.xWish, .int .i64 E'.xLast, .int .i64 E'.xState, .int .i64 E'.xTag, .int .i64 E'.xPeerTag, .int .i64 E'.xTsn, .int .i64 E'.xPeerTsn, .int .i64 E'.xStreams, .slice B1 q1 d1, .int .i64 E'.xTries, .int .i64 E'.xLeft, .slice S n c])) ∧ (T = 268 ∧ k = 0 ∨ T = 320 ∧ k = 3) ∧ tickE x = E' ∧ tickK x = k ∧ OwBy w' f1 (.slice B1 q1 d1) E'.xCookie ∧ OwFrmPacketS w' f2 (.slice S n c) (tickP x) ∧ Nw lo w'.heap.size (f1 ++ f2) ∧ Below w.heap.size w w' := by
  by_cases h0 : x.xLeft = 0
  · obtain ⟨he, hp, hk⟩ := tick_0 hok h0
    exact (ascTick_0 x B _ d w h0).mono fun e w' ⟨h1, hb⟩ => ⟨268, 0, x, B, _, d, none, 0, 0, f0, [], h1, .inl ⟨rfl, rfl⟩, he, hk, hv.below hb, by rw [hp]; exact OwL.nil _, by rw [List.append_nil]; exact hn.mono (Nat.le_refl _) hb.size, hb⟩
  obtain ⟨hw, ht0, ht4, hl1, hl3⟩ := ascOk_waits hok h0
  by_cases h1 : 0 < x.xLeft - 1
  · obtain ⟨he, hp, hk⟩ := tick_l hok h0 h1
    exact (ascTick_l x B _ d w h0 h1 hl3).mono fun e w' ⟨h1, hb⟩ => ⟨268, 0, lessE x, B, _, d, none, 0, 0, f0, [], h1, .inl ⟨rfl, rfl⟩, he, hk, hv.below hb, by rw [hp]; exact OwL.nil _, by rw [List.append_nil]; exact hn.mono (Nat.le_refl _) hb.size, hb⟩
  by_cases h2 : x.xTries = 4
  · by_cases h3 : x.xState ≤ 2
    · obtain ⟨he, hp, hk⟩ := tick_g hok h0 h1 h2 h3
      rcases (show x.xState = 1 ∨ x.xState = 2 by omega) with hs | hs
      · exact (ascTick_g1 x B _ d w hs h0 h1 hl1 h2).mono fun e w' ⟨B1, q1, d1, f, h1, h2, h3, hb⟩ => ⟨320, 3, bareF x, B1, q1, d1, none, 0, 0, f, [], h1, .inr ⟨rfl, rfl⟩, he, hk, h2, by rw [hp]; exact OwL.nil _, by rw [List.append_nil]; exact h3.mono hlo (Nat.le_refl _), hb⟩
      · exact (ascTick_g2 x B _ d w hs h0 h1 hl1 h2).mono fun e w' ⟨B1, q1, d1, f, h1, h2, h3, hb⟩ => ⟨320, 3, bareF x, B1, q1, d1, none, 0, 0, f, [], h1, .inr ⟨rfl, rfl⟩, he, hk, h2, by rw [hp]; exact OwL.nil _, by rw [List.append_nil]; exact h3.mono hlo (Nat.le_refl _), hb⟩
    · obtain ⟨he, hp, hk⟩ := tick_q hok h0 h1 h2 h3
      exact (ascTick_g5 x B _ d w (by omega) h0 h1 hl1 h2).mono fun e w' ⟨B1, q1, d1, f, h1, h2, h3, hb⟩ => ⟨268, 0, bareF x, B1, q1, d1, none, 0, 0, f, [], h1, .inl ⟨rfl, rfl⟩, he, hk, h2, by rw [hp]; exact OwL.nil _, by rw [List.append_nil]; exact h3.mono hlo (Nat.le_refl _), hb⟩
  · obtain ⟨he, hp, hk⟩ := tick_a hok h0 h1 h2
    have hfin : ∀ {e : Ending} {w' : World} {Q : List DFrmPacket}, againF (moreE x) = Q → (∃ S n c f, e = .returned (.iface 268 (.agg #[.int .i64 x.xMe, .int .i64 x.xPeer, .int .i64 x.xSecret, .int .i64 x.xWish, .int .i64 x.xLast, .int .i64 x.xState, .int .i64 x.xTag, .int .i64 x.xPeerTag, .int .i64 x.xTsn, .int .i64 x.xPeerTsn, .int .i64 x.xStreams, .slice B x.xCookie.length d, .int .i64 (x.xTries + 1), .int .i64 3, .slice S n c])) ∧ OwFrmPacketS w' f (.slice S n c) Q ∧ Nw w.heap.size w'.heap.size f ∧ Below w.heap.size w w') → ∃ (T : TypeId) (k : Int) (E' : DAscEnd) (B1 : Option Addr) (q1 d1 : Nat) (S : Option Addr) (n c : Nat) (f1 f2 : List Nat), e = .returned (.iface T (.agg #[.int .i64 E'.xMe, .int .i64 E'.xPeer, .int .i64 E'.xSecret, .int .i64 E'.xWish, .int .i64 E'.xLast, .int .i64 E'.xState, .int .i64 E'.xTag, .int .i64 E'.xPeerTag, .int .i64 E'.xTsn, .int .i64 E'.xPeerTsn, .int .i64 E'.xStreams, .slice B1 q1 d1, .int .i64 E'.xTries, .int .i64 E'.xLeft, .slice S n c])) ∧ (T = 268 ∧ k = 0 ∨ T = 320 ∧ k = 3) ∧ tickE x = E' ∧ tickK x = k ∧ OwBy w' f1 (.slice B1 q1 d1) E'.xCookie ∧ OwFrmPacketS w' f2 (.slice S n c) (tickP x) ∧ Nw lo w'.heap.size (f1 ++ f2) ∧ Below w.heap.size w w' := by
      rintro e w' Q hQ ⟨S, n, c, f, h1, h2, h3, hb⟩
      exact ⟨268, 0, moreE x, B, _, d, S, n, c, f0, f, h1, .inl ⟨rfl, rfl⟩, he, hk, hv.below hb, by rw [hp, hQ]; exact h2, (hn.mono (Nat.le_refl _) (Nat.le_refl _)).app h3 hlo hb.size, hb⟩
    rcases hw with hs | ⟨hs, hc1, hc2⟩ | hs | hs
    · exact (ascTick_a1 x B _ d w hs h0 h1 hl1 h2 ht0 ht4).mono fun e w' h => hfin (by simp [againF, moreE, hs]) h
    · exact (ascTick_a2 x B _ d w hs h0 h1 hl1 h2 ht0 ht4 hv.rd (by omega)).mono fun e w' h => hfin (by simp [againF, moreE, hs]) h
    · exact (ascTick_a4 x B _ d w hs h0 h1 hl1 h2 ht0 ht4).mono fun e w' h => hfin (by simp [againF, moreE, hs]) h
    · exact (ascTick_a5 x B _ d w hs h0 h1 hl1 h2 ht0 ht4).mono fun e w' h => hfin (by simp [againF, moreE, hs]) h

set_option maxRecDepth 100000 in
set_option maxHeartbeats 4000000 in
theorem implAscTick_p (cs : List Value) (x : DAscEnd) (w : World) (h : FAscEnd w cs x) (hz : zAscEnd x ≤ 1048576) : Calls Try.prog 60 #[.agg cs.toArray] w (LinePost w (tickE x) (tickP x) (tickK x)) := by
  have HF := Lib.hid h
  obtain ⟨vk, rfl, h11⟩ := h
  clear h11
  have Hz := Lib.hid (show x.xCookie.length ≤ 1048576 from hz)
  clear hz
  have H_n := Lib.hid (fun h => tick_n (x := x) h)
  have H_p := Lib.hid (fun B d w lo f0 h1 h2 h3 h4 => ascTick_p x B d w lo f0 h1 h2 h3 h4)
  generalize tickE x = sE at *
  generalize tickP x = sP at *
  generalize tickK x = sK at *
  have K := Lib.hid ((Blk.new (w := w) (b := w.heap.size) #[.int .i64 x.xMe, .int .i64 x.xPeer, .int .i64 x.xSecret, .int .i64 x.xWish, .int .i64 x.xLast, .int .i64 x.xState, .int .i64 x.xTag, .int .i64 x.xPeerTag, .int .i64 x.xTsn, .int .i64 x.xPeerTsn, .int .i64 x.xStreams, vk, .int .i64 x.xTries, .int .i64 x.xLeft] 67 rfl).alloc (.cells #[.int .i64 0, .int .i64 0, .int .i64 0, .int .i64 0, .int .i64 0, .int .i64 0, .int .i64 0, .int .i64 0, .int .i64 0, .int .i64 0, .int .i64 0, .slice none 0 0, .int .i64 0, .int .i64 0] 67))
  have R := Lib.hid (Blk.new (w := (w.alloc (.cells #[.int .i64 x.xMe, .int .i64 x.xPeer, .int .i64 x.xSecret, .int .i64 x.xWish, .int .i64 x.xLast, .int .i64 x.xState, .int .i64 x.xTag, .int .i64 x.xPeerTag, .int .i64 x.xTsn, .int .i64 x.xPeerTsn, .int .i64 x.xStreams, vk, .int .i64 x.xTries, .int .i64 x.xLeft] 67))) (b := w.heap.size + 1) #[.int .i64 0, .int .i64 0, .int .i64 0, .int .i64 0, .int .i64 0, .int .i64 0, .int .i64 0, .int .i64 0, .int .i64 0, .int .i64 0, .int .i64 0, .slice none 0 0, .int .i64 0, .int .i64 0] 67 (by simp))
  have HB := Lib.hid (((Below.refl w.heap.size w).alloc (Nat.le_refl _) (.cells #[.int .i64 x.xMe, .int .i64 x.xPeer, .int .i64 x.xSecret, .int .i64 x.xWish, .int .i64 x.xLast, .int .i64 x.xState, .int .i64 x.xTag, .int .i64 x.xPeerTag, .int .i64 x.xTsn, .int .i64 x.xPeerTsn, .int .i64 x.xStreams, vk, .int .i64 x.xTries, .int .i64 x.xLeft] 67)).alloc (by simp) (.cells #[.int .i64 0, .int .i64 0, .int .i64 0, .int .i64 0, .int .i64 0, .int .i64 0, .int .i64 0, .int .i64 0, .int .i64 0, .int .i64 0, .int .i64 0, .slice none 0 0, .int .i64 0, .int .i64 0] 67))
  have Z0 := Lib.hid (show w.heap.size + 2 = ((w.alloc (.cells #[.int .i64 x.xMe, .int .i64 x.xPeer, .int .i64 x.xSecret, .int .i64 x.xWish, .int .i64 x.xLast, .int .i64 x.xState, .int .i64 x.xTag, .int .i64 x.xPeerTag, .int .i64 x.xTsn, .int .i64 x.xPeerTsn, .int .i64 x.xStreams, vk, .int .i64 x.xTries, .int .i64 x.xLeft] 67)).alloc (.cells #[.int .i64 0, .int .i64 0, .int .i64 0, .int .i64 0, .int .i64 0, .int .i64 0, .int .i64 0, .int .i64 0, .int .i64 0, .int .i64 0, .int .i64 0, .slice none 0 0, .int .i64 0, .int .i64 0] 67)).heap.size by simp)
  go_enter Try.func60, Try.ntmps60
  go_wp2_with (refine wpList_load_blk rfl 67 (.tmp 1) rfl K.out rfl _ Try.underlying67 rfl isz_AscEnd ?_)
  refine (implAscEndOk_r _ x _ (HF.out.below HB.out)).mono ?_
  rintro e w1 ⟨rfl, b1⟩
  replace K := Lib.hid (K.out.keep b1)
  replace R := Lib.hid (R.out.keep b1)
  replace HB := Lib.hid (HB.out.trans (b1.mono HB.out.size))
  have Z1 := Lib.hid (show w.heap.size + 2 ≤ w1.heap.size by have := b1.size; have := Z0.out; omega)
  clear b1
  rcases hok : ascOk x with _ | _
  · skip
    obtain ⟨he, hp, hk⟩ := H_n.out hok
    have HE := Lib.hid he
    have HP := Lib.hid hp
    have HK := Lib.hid hk
    clear he hp hk
    go_wp2_with (refine wpList_store_blk rfl 67 (.tmp 2) (.tmp 8) rfl R.out _ rfl rfl rfl isz_AscEnd (by kernel_rfl) ?_; intro w9 kk9 ff9 ss9)
    refine bodyPost_ret (v := .tuple #[.agg #[.int .i64 0, .int .i64 0, .int .i64 0, .int .i64 0, .int .i64 0, .int .i64 0, .int .i64 0, .int .i64 0, .int .i64 0, .int .i64 0, .int .i64 0, .slice none 0 0, .int .i64 0, .int .i64 0], .slice none 0 0, .int .i64 0]) (results_row3 rfl rfl rfl rfl (load_blk 67 kk9 _ Try.underlying67 rfl isz_AscEnd)) rfl ?_
    exact ⟨_, .slice none 0 0, [], [], by rw [HK.out], by rw [HE.out]; exact EAscEnd.nil _ zeroEnd rfl, by rw [HP.out]; exact OwL.nil _, Nw.nil _ _, below_frl1 HB.out (Nat.le_refl _) ff9 (by omega)⟩
  go_wp2_with (refine wpList_load_blk rfl 67 (.tmp 1) rfl K.out rfl _ Try.underlying67 rfl isz_AscEnd ?_)
  refine (ascCopy_n _ x _ (HF.out.below HB.out) Hz.out).mono ?_
  rintro e w2 ⟨cx, gx, rfl, ex, nx, b2⟩
  obtain ⟨vx, gx', rfl, ox, hgx⟩ := ex
  obtain rfl := hgx
  obtain ⟨B, d, rfl⟩ := ox.rd.slice
  have NX := Lib.hid (nx.mono (lo' := w.heap.size + 2) Z1.out (Nat.le_refl _))
  have OX := Lib.hid ox
  replace R := Lib.hid (R.out.keep b2)
  have Z2 := Lib.hid (show w.heap.size + 2 ≤ w2.heap.size from Nat.le_trans Z1.out b2.size)
  replace HB := Lib.hid (HB.out.trans (b2.mono HB.out.size))
  have Hok := Lib.hid hok
  clear ox nx b2 Z0 K hok H_n
  go_wp2_with fail
  refine (H_p.out B d w2 (w.heap.size + 2) gx Hok.out OX.out NX.out Z2.out).mono ?_
  rintro e w3 ⟨T, k, E', B1, q1, d1, S, n, c, f1, f2, rfl, hT, hE, hk, o1, o2, n2, b3⟩
  have HT := Lib.hid hT
  have HE := Lib.hid hE
  have HK := Lib.hid hk
  have O1 := Lib.hid o1
  have O2 := Lib.hid o2
  have N2 := Lib.hid n2
  replace R := Lib.hid (R.out.keep b3)
  replace HB := Lib.hid (HB.out.trans (b3.mono HB.out.size))
  clear hT hE hk o1 o2 n2 b3 H_p
  go_wp2_with fail
  refine (tell_any T k HT.out E' B1 q1 d1 S n c _).mono ?_
  rintro e w4 ⟨rfl, b4⟩
  replace R := Lib.hid (R.out.keep b4)
  replace HB := Lib.hid (HB.out.trans (b4.mono HB.out.size))
  replace O1 := Lib.hid (O1.out.below b4)
  replace O2 := Lib.hid (OwL.below EFrmPacket.framed EFrmPacket.inside O2.out b4)
  replace N2 := Lib.hid (N2.out.mono (Nat.le_refl _) b4.size)
  clear b4
  go_wp2_with (refine wpList_store_blk rfl 67 (.tmp 2) (.tmp 13) rfl R.out _ rfl rfl rfl isz_AscEnd (by kernel_rfl) ?_; intro w9 kk9 ff9 ss9)
  refine bodyPost_ret (v := .tuple #[.agg #[.int .i64 E'.xMe, .int .i64 E'.xPeer, .int .i64 E'.xSecret, .int .i64 E'.xWish, .int .i64 E'.xLast, .int .i64 E'.xState, .int .i64 E'.xTag, .int .i64 E'.xPeerTag, .int .i64 E'.xTsn, .int .i64 E'.xPeerTsn, .int .i64 E'.xStreams, .slice B1 q1 d1, .int .i64 E'.xTries, .int .i64 E'.xLeft], .slice S n c, .int .i64 k]) (results_row3 rfl rfl rfl rfl (load_blk 67 kk9 _ Try.underlying67 rfl isz_AscEnd)) rfl ?_
  have nl : ∀ b ∈ f1 ++ f2, b ∉ [w.heap.size + 1] := fun b hb => by have := (N2.out.2 b hb).1; simp; omega
  refine ⟨_, .slice S n c, f1, f2, by rw [HK.out], ?_, OwL.frl EFrmPacket.framed EFrmPacket.inside O2.out ff9 (fun b hb => nl b (List.mem_append_right _ hb)), by rw [ss9]; exact N2.out.mono (by omega) (Nat.le_refl _), below_frl1 HB.out (Nat.le_refl _) ff9 (by omega)⟩
  rw [HE.out]
  have ql : E'.xCookie.length = q1 := by obtain ⟨A', c', h'⟩ := O1.out.rd.slice; injection h' with _ h' _; exact h'.symm
  exact ⟨_, f1, rfl, O1.out.frl ff9 (fun b hb => nl b (List.mem_append_left _ hb)), rfl⟩

theorem specAscTick_n (cs : List Value) (x : DAscEnd) (w : World) (h : FAscEnd w cs x) (hz : zAscEnd x ≤ 1048576) : Calls Try.prog 59 #[.agg cs.toArray] w fun e w' => ∃ cs' v' f1 f2, e = .returned (.tuple #[.agg cs'.toArray, v', .int .i64 (tickK x)]) ∧ EAscEnd w' f1 cs' (tickE x) ∧ OwFrmPacketS w' f2 v' (tickP x) ∧ Nw w.heap.size w'.heap.size (f1 ++ f2) ∧ Below w.heap.size w w' :=
  specAscTick_p cs x w h hz

theorem implAscTick_n (cs : List Value) (x : DAscEnd) (w : World) (h : FAscEnd w cs x) (hz : zAscEnd x ≤ 1048576) : Calls Try.prog 60 #[.agg cs.toArray] w fun e w' => ∃ cs' v' f1 f2, e = .returned (.tuple #[.agg cs'.toArray, v', .int .i64 (tickK x)]) ∧ EAscEnd w' f1 cs' (tickE x) ∧ OwFrmPacketS w' f2 v' (tickP x) ∧ Nw w.heap.size w'.heap.size (f1 ++ f2) ∧ Below w.heap.size w w' :=
  implAscTick_p cs x w h hz

theorem againF_z (y : DAscEnd) (hw : y.xState = 1 ∨ (y.xState = 2 ∧ 0 < y.xCookie.length ∧ y.xCookie.length ≤ 64) ∨ y.xState = 4 ∨ y.xState = 5) : zL zFrmPacket (againF y) ≤ 1048576 := by
  unfold againF
  split
  · rw [frame_z2]; simp [zFrmChunk, firstC, noChunk]
  · split
    · have h : y.xCookie.length ≤ 64 := by omega
      rw [frame_z2]; simp [zFrmChunk, echoC, noChunk]; omega
    · split <;> (rw [frame_z2]; simp [zFrmChunk, shutC, ackC, noChunk])
theorem tickP_z (x : DAscEnd) : zL zFrmPacket (tickP x) ≤ 1048576 := by
  unfold tickP tickR
  split
  · rename_i hok
    split
    · simp [zL, szL]
    · rename_i h0
      obtain ⟨hw, _⟩ := ascOk_waits hok h0
      repeat' split
      all_goals first
        | (simp [zL, szL]; done)
        | exact againF_z (moreE x) hw
  · simp [zL, szL]
theorem ascTick_bd (x : DAscEnd) (h : zAscEnd x ≤ 1048576) : zAscEnd (tickE x) ≤ 1048576 ∧ zL zFrmPacket (tickP x) ≤ 1048576 := by
  have h1 := tickE_cookie x
  refine ⟨?_, tickP_z x⟩
  unfold zAscEnd at *; omega
end Go.Proofs.Ythdjjgbjemaabaa
