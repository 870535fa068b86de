/-
  The small functions of chapter 6 of both programs: a frame of an end, its first word, a copy of it, an end whose line is closed. (Written by wip/tools/genline.py.)
-/
import Derived.Test.YthdjjgbjemaabaaBlkW
import Derived.Test.YthdjjgbjemaabaaCopy
import Derived.Test.YthdjjgbjemaabaaTyAscEnd
import Derived.Test.YthdjjgbjemaabaaTyFrmPacket
import Derived.Test.YthdjjgbjemaabaaAscOkS
import Derived.Test.YthdjjgbjemaabaaAppI
namespace Go.Proofs.Ythdjjgbjemaabaa
open Go.ChangeShapes Go.WideShapes Go.ChangeAt Go.RowKit
set_option linter.unusedVariables false
set_option linter.unusedSimpArgs false

theorem isz_AscEnd : (Try.prog.info? 67).map (·.size) = some 14 := by kernel_rfl
theorem isz_FrmChunk : (Try.prog.info? 189).map (·.size) = some 11 := by kernel_rfl
/-- A frame of an end, and all that it says. -/
def frameF (x : DAscEnd) (tag : Int) (c : DFrmChunk) : List DFrmPacket := [{ xFrom := x.xMe, xTo := x.xPeer, xTag := tag, xChunks := [c] }]
def noChunk : DFrmChunk := ⟨0, 0, 0, 0, 0, 0, 0, 0, [], [], []⟩
def firstC (x : DAscEnd) : DFrmChunk := { noChunk with xKind := 1, xTag := x.xTag, xWindow := 4096, xStream := x.xWish, xTsn := x.xTsn }
def abortC : DFrmChunk := { noChunk with xKind := 6 }
def shutC (at_ : Int) : DFrmChunk := { noChunk with xKind := 7, xTsn := at_ }
def zeroEnd : DAscEnd := ⟨0, 0, 0, 0, 0, 0, 0, 0, 0, 0, 0, [], 0, 0⟩
def bareF (x : DAscEnd) : DAscEnd := { zeroEnd with xMe := x.xMe, xPeer := x.xPeer, xSecret := x.xSecret, xWish := x.xWish, xLast := x.xLast }
theorem EAscEnd.nil (w : World) (x : DAscEnd) (h : x.xCookie = []) : EAscEnd w [] [.int .i64 x.xMe, .int .i64 x.xPeer, .int .i64 x.xSecret, .int .i64 x.xWish, .int .i64 x.xLast, .int .i64 x.xState, .int .i64 x.xTag, .int .i64 x.xPeerTag, .int .i64 x.xTsn, .int .i64 x.xPeerTsn, .int .i64 x.xStreams, .slice none 0 0, .int .i64 x.xTries, .int .i64 x.xLeft] x :=
  ⟨.slice none 0 0, [], rfl, by rw [h]; exact ⟨⟨by simp, .inl ⟨rfl, rfl⟩⟩, rfl⟩, rfl⟩

set_option maxRecDepth 100000 in
set_option maxHeartbeats 1000000 in
theorem l6Frame_n (x : DAscEnd) (vk : Value) (tag : Int) (cc : List Value) (c : DFrmChunk) (fc : List Nat) (w : World) (lo : Nat) (hc : EFrmChunk w fc cc c) (hn : Nw lo w.heap.size fc) (hlo : lo ≤ w.heap.size) : Calls Try.prog 147 #[.agg #[.int .i64 x.xMe, .int .i64 x.xPeer, .int .i64 x.xSecret, .int .i64 x.xWish, .int .i64 x.xLast, .int .i64 x.xState, .int .i64 x.xTag, .int .i64 x.xPeerTag, .int .i64 x.xTsn, .int .i64 x.xPeerTsn, .int .i64 x.xStreams, vk, .int .i64 x.xTries, .int .i64 x.xLeft], .int .i64 tag, .agg cc.toArray] w fun e w' => ∃ v' f, e = .returned v' ∧ OwFrmPacketS w' f v' (frameF x tag c) ∧ Nw lo w'.heap.size f ∧ Below w.heap.size w w' := by
  obtain ⟨u8, u9, u10, g8, g9, g10, rfl, h8, h9, h10, rfl⟩ := hc
  have hE0 : EFrmChunk w (g8 ++ g9 ++ g10) [.int .i64 c.xKind, .int .i64 c.xFlags, .int .i64 c.xTag, .int .i64 c.xTsn, .int .i64 c.xStream, .int .i64 c.xSsn, .int .i64 c.xWindow, .int .i64 c.xCause, u8, u9, u10] c := ⟨u8, u9, u10, g8, g9, g10, rfl, h8, h9, h10, rfl⟩
  have HB0 := Lib.hid (((Below.refl w.heap.size w).alloc (Nat.le_refl _) (.cells #[.int .i64 x.xMe, .int .i64 x.xPeer, .int .i64 x.xSecret, .int .i64 x.xWish, .int .i64 x.xLast, .int .i64 x.xState, .int .i64 x.xTag, .int .i64 x.xPeerTag, .int .i64 x.xTsn, .int .i64 x.xPeerTsn, .int .i64 x.xStreams, vk, .int .i64 x.xTries, .int .i64 x.xLeft] 67)).alloc (by simp) (.cells #[.int .i64 c.xKind, .int .i64 c.xFlags, .int .i64 c.xTag, .int .i64 c.xTsn, .int .i64 c.xStream, .int .i64 c.xSsn, .int .i64 c.xWindow, .int .i64 c.xCause, u8, u9, u10] 189))
  have HE := Lib.hid (show EFrmChunk ((w.alloc (.cells #[.int .i64 x.xMe, .int .i64 x.xPeer, .int .i64 x.xSecret, .int .i64 x.xWish, .int .i64 x.xLast, .int .i64 x.xState, .int .i64 x.xTag, .int .i64 x.xPeerTag, .int .i64 x.xTsn, .int .i64 x.xPeerTsn, .int .i64 x.xStreams, vk, .int .i64 x.xTries, .int .i64 x.xLeft] 67)).alloc (.cells #[.int .i64 c.xKind, .int .i64 c.xFlags, .int .i64 c.xTag, .int .i64 c.xTsn, .int .i64 c.xStream, .int .i64 c.xSsn, .int .i64 c.xWindow, .int .i64 c.xCause, u8, u9, u10] 189)) _ _ c from EFrmChunk.framed _ _ _ _ _ hE0 (fun b hb => HB0.out.block b (EFrmChunk.inside _ _ _ _ hE0 b hb)))
  have O1 := Lib.hid (OwL.lit1 (e := 189) EFrmChunk.framed EFrmChunk.inside HE.out rfl (w.heap.size + 2) (by simp))
  have HP := Lib.hid (show EFrmPacket (((w.alloc (.cells #[.int .i64 x.xMe, .int .i64 x.xPeer, .int .i64 x.xSecret, .int .i64 x.xWish, .int .i64 x.xLast, .int .i64 x.xState, .int .i64 x.xTag, .int .i64 x.xPeerTag, .int .i64 x.xTsn, .int .i64 x.xPeerTsn, .int .i64 x.xStreams, vk, .int .i64 x.xTries, .int .i64 x.xLeft] 67)).alloc (.cells #[.int .i64 c.xKind, .int .i64 c.xFlags, .int .i64 c.xTag, .int .i64 c.xTsn, .int .i64 c.xStream, .int .i64 c.xSsn, .int .i64 c.xWindow, .int .i64 c.xCause, u8, u9, u10] 189)).alloc (.cells #[.int .i64 c.xKind, .int .i64 c.xFlags, .int .i64 c.xTag, .int .i64 c.xTsn, .int .i64 c.xStream, .int .i64 c.xSsn, .int .i64 c.xWindow, .int .i64 c.xCause, u8, u9, u10] 189)) ((w.heap.size + 2) :: (g8 ++ g9 ++ g10)) [.int .i64 x.xMe, .int .i64 x.xPeer, .int .i64 tag, .slice (some ⟨w.heap.size + 2, 0, none⟩) 1 1] ⟨x.xMe, x.xPeer, tag, [c]⟩ from ⟨_, _, rfl, O1.out, rfl⟩)
  have O2 := Lib.hid (OwL.lit1 (e := 195) EFrmPacket.framed EFrmPacket.inside HP.out rfl (w.heap.size + 3) (by simp))
  have HB := Lib.hid ((HB0.out.alloc (by simp; omega) (.cells #[.int .i64 c.xKind, .int .i64 c.xFlags, .int .i64 c.xTag, .int .i64 c.xTsn, .int .i64 c.xStream, .int .i64 c.xSsn, .int .i64 c.xWindow, .int .i64 c.xCause, u8, u9, u10] 189)).alloc (by simp; omega) (.cells #[.int .i64 x.xMe, .int .i64 x.xPeer, .int .i64 tag, .slice (some ⟨w.heap.size + 2, 0, none⟩) 1 1] 195))
  have NN := Lib.hid (show Nw lo ((((w.alloc (.cells #[.int .i64 x.xMe, .int .i64 x.xPeer, .int .i64 x.xSecret, .int .i64 x.xWish, .int .i64 x.xLast, .int .i64 x.xState, .int .i64 x.xTag, .int .i64 x.xPeerTag, .int .i64 x.xTsn, .int .i64 x.xPeerTsn, .int .i64 x.xStreams, vk, .int .i64 x.xTries, .int .i64 x.xLeft] 67)).alloc (.cells #[.int .i64 c.xKind, .int .i64 c.xFlags, .int .i64 c.xTag, .int .i64 c.xTsn, .int .i64 c.xStream, .int .i64 c.xSsn, .int .i64 c.xWindow, .int .i64 c.xCause, u8, u9, u10] 189)).alloc (.cells #[.int .i64 c.xKind, .int .i64 c.xFlags, .int .i64 c.xTag, .int .i64 c.xTsn, .int .i64 c.xStream, .int .i64 c.xSsn, .int .i64 c.xWindow, .int .i64 c.xCause, u8, u9, u10] 189)).alloc (.cells #[.int .i64 x.xMe, .int .i64 x.xPeer, .int .i64 tag, .slice (some ⟨w.heap.size + 2, 0, none⟩) 1 1] 195)).heap.size ((w.heap.size + 3) :: (w.heap.size + 2) :: (g8 ++ g9 ++ g10)) from by
    refine ⟨?_, fun b hb => ?_⟩
    · refine List.nodup_cons.2 ⟨fun h => ?_, List.nodup_cons.2 ⟨fun h => ?_, hn.1⟩⟩
      · rcases List.mem_cons.1 h with h | h
        · omega
        · have := (hn.2 _ h).2; omega
      · have := (hn.2 _ h).2; omega
    · simp only [World.size_alloc]
      rcases List.mem_cons.1 hb with rfl | hb
      · omega
      · rcases List.mem_cons.1 hb with rfl | hb
        · omega
        · have := hn.2 b hb; omega)
  clear h8 h9 h10 hE0 HE O1 HP HB0 hn
  have K0 := Lib.hid (Blk.new (w := w) (b := w.heap.size) #[.int .i64 x.xMe, .int .i64 x.xPeer, .int .i64 x.xSecret, .int .i64 x.xWish, .int .i64 x.xLast, .int .i64 x.xState, .int .i64 x.xTag, .int .i64 x.xPeerTag, .int .i64 x.xTsn, .int .i64 x.xPeerTsn, .int .i64 x.xStreams, vk, .int .i64 x.xTries, .int .i64 x.xLeft] 67 rfl)
  have K := Lib.hid (K0.out.alloc (.cells #[.int .i64 c.xKind, .int .i64 c.xFlags, .int .i64 c.xTag, .int .i64 c.xTsn, .int .i64 c.xStream, .int .i64 c.xSsn, .int .i64 c.xWindow, .int .i64 c.xCause, u8, u9, u10] 189))
  have k0 := K.out.at (i := 0) rfl
  have k1 := K.out.at (i := 1) rfl
  clear K K0
  go_enter Try.func147, Try.ntmps147
  go_wp2
  go_ret
  exact ⟨_, _, rfl, O2.out, NN.out, HB.out⟩

set_option maxRecDepth 100000 in
set_option maxHeartbeats 1000000 in
theorem ascFrame_n (x : DAscEnd) (vk : Value) (tag : Int) (cc : List Value) (c : DFrmChunk) (fc : List Nat) (w : World) (lo : Nat) (hc : EFrmChunk w fc cc c) (hn : Nw lo w.heap.size fc) (hlo : lo ≤ w.heap.size) : Calls Try.prog 153 #[.agg #[.int .i64 x.xMe, .int .i64 x.xPeer, .int .i64 x.xSecret, .int .i64 x.xWish, .int .i64 x.xLast, .int .i64 x.xState, .int .i64 x.xTag, .int .i64 x.xPeerTag, .int .i64 x.xTsn, .int .i64 x.xPeerTsn, .int .i64 x.xStreams, vk, .int .i64 x.xTries, .int .i64 x.xLeft], .int .i64 tag, .agg cc.toArray] w fun e w' => ∃ v' f, e = .returned v' ∧ OwFrmPacketS w' f v' (frameF x tag c) ∧ Nw lo w'.heap.size f ∧ Below w.heap.size w w' := by
  obtain ⟨u8, u9, u10, g8, g9, g10, rfl, h8, h9, h10, rfl⟩ := hc
  have hE0 : EFrmChunk w (g8 ++ g9 ++ g10) [.int .i64 c.xKind, .int .i64 c.xFlags, .int .i64 c.xTag, .int .i64 c.xTsn, .int .i64 c.xStream, .int .i64 c.xSsn, .int .i64 c.xWindow, .int .i64 c.xCause, u8, u9, u10] c := ⟨u8, u9, u10, g8, g9, g10, rfl, h8, h9, h10, rfl⟩
  have HB0 := Lib.hid (((Below.refl w.heap.size w).alloc (Nat.le_refl _) (.cells #[.int .i64 x.xMe, .int .i64 x.xPeer, .int .i64 x.xSecret, .int .i64 x.xWish, .int .i64 x.xLast, .int .i64 x.xState, .int .i64 x.xTag, .int .i64 x.xPeerTag, .int .i64 x.xTsn, .int .i64 x.xPeerTsn, .int .i64 x.xStreams, vk, .int .i64 x.xTries, .int .i64 x.xLeft] 67)).alloc (by simp) (.cells #[.int .i64 c.xKind, .int .i64 c.xFlags, .int .i64 c.xTag, .int .i64 c.xTsn, .int .i64 c.xStream, .int .i64 c.xSsn, .int .i64 c.xWindow, .int .i64 c.xCause, u8, u9, u10] 189))
  have HE := Lib.hid (show EFrmChunk ((w.alloc (.cells #[.int .i64 x.xMe, .int .i64 x.xPeer, .int .i64 x.xSecret, .int .i64 x.xWish, .int .i64 x.xLast, .int .i64 x.xState, .int .i64 x.xTag, .int .i64 x.xPeerTag, .int .i64 x.xTsn, .int .i64 x.xPeerTsn, .int .i64 x.xStreams, vk, .int .i64 x.xTries, .int .i64 x.xLeft] 67)).alloc (.cells #[.int .i64 c.xKind, .int .i64 c.xFlags, .int .i64 c.xTag, .int .i64 c.xTsn, .int .i64 c.xStream, .int .i64 c.xSsn, .int .i64 c.xWindow, .int .i64 c.xCause, u8, u9, u10] 189)) _ _ c from EFrmChunk.framed _ _ _ _ _ hE0 (fun b hb => HB0.out.block b (EFrmChunk.inside _ _ _ _ hE0 b hb)))
  have O1 := Lib.hid (OwL.lit1 (e := 189) EFrmChunk.framed EFrmChunk.inside HE.out rfl (w.heap.size + 2) (by simp))
  have HP := Lib.hid (show EFrmPacket (((w.alloc (.cells #[.int .i64 x.xMe, .int .i64 x.xPeer, .int .i64 x.xSecret, .int .i64 x.xWish, .int .i64 x.xLast, .int .i64 x.xState, .int .i64 x.xTag, .int .i64 x.xPeerTag, .int .i64 x.xTsn, .int .i64 x.xPeerTsn, .int .i64 x.xStreams, vk, .int .i64 x.xTries, .int .i64 x.xLeft] 67)).alloc (.cells #[.int .i64 c.xKind, .int .i64 c.xFlags, .int .i64 c.xTag, .int .i64 c.xTsn, .int .i64 c.xStream, .int .i64 c.xSsn, .int .i64 c.xWindow, .int .i64 c.xCause, u8, u9, u10] 189)).alloc (.cells #[.int .i64 c.xKind, .int .i64 c.xFlags, .int .i64 c.xTag, .int .i64 c.xTsn, .int .i64 c.xStream, .int .i64 c.xSsn, .int .i64 c.xWindow, .int .i64 c.xCause, u8, u9, u10] 189)) ((w.heap.size + 2) :: (g8 ++ g9 ++ g10)) [.int .i64 x.xMe, .int .i64 x.xPeer, .int .i64 tag, .slice (some ⟨w.heap.size + 2, 0, none⟩) 1 1] ⟨x.xMe, x.xPeer, tag, [c]⟩ from ⟨_, _, rfl, O1.out, rfl⟩)
  have O2 := Lib.hid (OwL.lit1 (e := 195) EFrmPacket.framed EFrmPacket.inside HP.out rfl (w.heap.size + 3) (by simp))
  have HB := Lib.hid ((HB0.out.alloc (by simp; omega) (.cells #[.int .i64 c.xKind, .int .i64 c.xFlags, .int .i64 c.xTag, .int .i64 c.xTsn, .int .i64 c.xStream, .int .i64 c.xSsn, .int .i64 c.xWindow, .int .i64 c.xCause, u8, u9, u10] 189)).alloc (by simp; omega) (.cells #[.int .i64 x.xMe, .int .i64 x.xPeer, .int .i64 tag, .slice (some ⟨w.heap.size + 2, 0, none⟩) 1 1] 195))
  have NN := Lib.hid (show Nw lo ((((w.alloc (.cells #[.int .i64 x.xMe, .int .i64 x.xPeer, .int .i64 x.xSecret, .int .i64 x.xWish, .int .i64 x.xLast, .int .i64 x.xState, .int .i64 x.xTag, .int .i64 x.xPeerTag, .int .i64 x.xTsn, .int .i64 x.xPeerTsn, .int .i64 x.xStreams, vk, .int .i64 x.xTries, .int .i64 x.xLeft] 67)).alloc (.cells #[.int .i64 c.xKind, .int .i64 c.xFlags, .int .i64 c.xTag, .int .i64 c.xTsn, .int .i64 c.xStream, .int .i64 c.xSsn, .int .i64 c.xWindow, .int .i64 c.xCause, u8, u9, u10] 189)).alloc (.cells #[.int .i64 c.xKind, .int .i64 c.xFlags, .int .i64 c.xTag, .int .i64 c.xTsn, .int .i64 c.xStream, .int .i64 c.xSsn, .int .i64 c.xWindow, .int .i64 c.xCause, u8, u9, u10] 189)).alloc (.cells #[.int .i64 x.xMe, .int .i64 x.xPeer, .int .i64 tag, .slice (some ⟨w.heap.size + 2, 0, none⟩) 1 1] 195)).heap.size ((w.heap.size + 3) :: (w.heap.size + 2) :: (g8 ++ g9 ++ g10)) from by
    refine ⟨?_, fun b hb => ?_⟩
    · refine List.nodup_cons.2 ⟨fun h => ?_, List.nodup_cons.2 ⟨fun h => ?_, hn.1⟩⟩
      · rcases List.mem_cons.1 h with h | h
        · omega
        · have := (hn.2 _ h).2; omega
      · have := (hn.2 _ h).2; omega
    · simp only [World.size_alloc]
      rcases List.mem_cons.1 hb with rfl | hb
      · omega
      · rcases List.mem_cons.1 hb with rfl | hb
        · omega
        · have := hn.2 b hb; omega)
  clear h8 h9 h10 hE0 HE O1 HP HB0 hn
  have K0 := Lib.hid (Blk.new (w := w) (b := w.heap.size) #[.int .i64 x.xMe, .int .i64 x.xPeer, .int .i64 x.xSecret, .int .i64 x.xWish, .int .i64 x.xLast, .int .i64 x.xState, .int .i64 x.xTag, .int .i64 x.xPeerTag, .int .i64 x.xTsn, .int .i64 x.xPeerTsn, .int .i64 x.xStreams, vk, .int .i64 x.xTries, .int .i64 x.xLeft] 67 rfl)
  have K := Lib.hid (K0.out.alloc (.cells #[.int .i64 c.xKind, .int .i64 c.xFlags, .int .i64 c.xTag, .int .i64 c.xTsn, .int .i64 c.xStream, .int .i64 c.xSsn, .int .i64 c.xWindow, .int .i64 c.xCause, u8, u9, u10] 189))
  have k0 := K.out.at (i := 0) rfl
  have k1 := K.out.at (i := 1) rfl
  clear K K0
  go_enter Try.func153, Try.ntmps153
  go_wp2
  go_ret
  exact ⟨_, _, rfl, O2.out, NN.out, HB.out⟩

set_option maxRecDepth 100000 in
set_option maxHeartbeats 1000000 in
theorem l6First_n (x : DAscEnd) (vk : Value) (w : World) : Calls Try.prog 160 #[.agg #[.int .i64 x.xMe, .int .i64 x.xPeer, .int .i64 x.xSecret, .int .i64 x.xWish, .int .i64 x.xLast, .int .i64 x.xState, .int .i64 x.xTag, .int .i64 x.xPeerTag, .int .i64 x.xTsn, .int .i64 x.xPeerTsn, .int .i64 x.xStreams, vk, .int .i64 x.xTries, .int .i64 x.xLeft]] w fun e w' => ∃ v' f, e = .returned v' ∧ OwFrmPacketS w' f v' (frameF x 0 (firstC x)) ∧ Nw w.heap.size w'.heap.size f ∧ Below w.heap.size w w' := by
  have HB := Lib.hid ((Below.refl w.heap.size w).alloc (Nat.le_refl _) (.cells #[.int .i64 x.xMe, .int .i64 x.xPeer, .int .i64 x.xSecret, .int .i64 x.xWish, .int .i64 x.xLast, .int .i64 x.xState, .int .i64 x.xTag, .int .i64 x.xPeerTag, .int .i64 x.xTsn, .int .i64 x.xPeerTsn, .int .i64 x.xStreams, vk, .int .i64 x.xTries, .int .i64 x.xLeft] 67))
  have K := Lib.hid (Blk.new (w := w) (b := w.heap.size) #[.int .i64 x.xMe, .int .i64 x.xPeer, .int .i64 x.xSecret, .int .i64 x.xWish, .int .i64 x.xLast, .int .i64 x.xState, .int .i64 x.xTag, .int .i64 x.xPeerTag, .int .i64 x.xTsn, .int .i64 x.xPeerTsn, .int .i64 x.xStreams, vk, .int .i64 x.xTries, .int .i64 x.xLeft] 67 rfl)
  have k3 := K.out.at (i := 3) rfl
  have k6 := K.out.at (i := 6) rfl
  have k8 := K.out.at (i := 8) rfl
  go_enter Try.func160, Try.ntmps160
  go_wp2_with (refine wpList_load_blk rfl 67 (.tmp 1) rfl K.out rfl _ Try.underlying67 rfl isz_AscEnd ?_)
  refine (l6Frame_n x vk 0 [.int .i64 1, .int .i64 0, .int .i64 x.xTag, .int .i64 x.xTsn, .int .i64 x.xWish, .int .i64 0, .int .i64 4096, .int .i64 0, .slice none 0 0, .slice none 0 0, .slice none 0 0] (firstC x) [] _ w.heap.size ⟨_, _, _, [], [], [], rfl, OwL.nil _, ⟨⟨by simp [firstC, noChunk], .inl ⟨rfl, rfl⟩⟩, rfl⟩, ⟨⟨by simp [firstC, noChunk], .inl ⟨rfl, rfl⟩⟩, rfl⟩, rfl⟩ (Nw.nil _ _) HB.out.size).mono ?_
  rintro e w1 ⟨v', f, rfl, o1, n1, b1⟩
  have O1 := Lib.hid o1
  have N1 := Lib.hid n1
  replace HB := Lib.hid (HB.out.trans (b1.mono HB.out.size))
  clear o1 n1 b1 K k3 k6 k8
  go_wp2
  go_ret
  exact ⟨_, _, rfl, O1.out, N1.out, HB.out⟩

set_option maxRecDepth 100000 in
set_option maxHeartbeats 1000000 in
theorem ascFirstWord_n (x : DAscEnd) (vk : Value) (w : World) : Calls Try.prog 162 #[.agg #[.int .i64 x.xMe, .int .i64 x.xPeer, .int .i64 x.xSecret, .int .i64 x.xWish, .int .i64 x.xLast, .int .i64 x.xState, .int .i64 x.xTag, .int .i64 x.xPeerTag, .int .i64 x.xTsn, .int .i64 x.xPeerTsn, .int .i64 x.xStreams, vk, .int .i64 x.xTries, .int .i64 x.xLeft]] w fun e w' => ∃ v' f, e = .returned v' ∧ OwFrmPacketS w' f v' (frameF x 0 (firstC x)) ∧ Nw w.heap.size w'.heap.size f ∧ Below w.heap.size w w' := by
  have HB := Lib.hid ((Below.refl w.heap.size w).alloc (Nat.le_refl _) (.cells #[.int .i64 x.xMe, .int .i64 x.xPeer, .int .i64 x.xSecret, .int .i64 x.xWish, .int .i64 x.xLast, .int .i64 x.xState, .int .i64 x.xTag, .int .i64 x.xPeerTag, .int .i64 x.xTsn, .int .i64 x.xPeerTsn, .int .i64 x.xStreams, vk, .int .i64 x.xTries, .int .i64 x.xLeft] 67))
  have K := Lib.hid (Blk.new (w := w) (b := w.heap.size) #[.int .i64 x.xMe, .int .i64 x.xPeer, .int .i64 x.xSecret, .int .i64 x.xWish, .int .i64 x.xLast, .int .i64 x.xState, .int .i64 x.xTag, .int .i64 x.xPeerTag, .int .i64 x.xTsn, .int .i64 x.xPeerTsn, .int .i64 x.xStreams, vk, .int .i64 x.xTries, .int .i64 x.xLeft] 67 rfl)
  have k3 := K.out.at (i := 3) rfl
  have k6 := K.out.at (i := 6) rfl
  have k8 := K.out.at (i := 8) rfl
  go_enter Try.func162, Try.ntmps162
  go_wp2_with (refine wpList_load_blk rfl 67 (.tmp 1) rfl K.out rfl _ Try.underlying67 rfl isz_AscEnd ?_)
  refine (ascFrame_n x vk 0 [.int .i64 1, .int .i64 0, .int .i64 x.xTag, .int .i64 x.xTsn, .int .i64 x.xWish, .int .i64 0, .int .i64 4096, .int .i64 0, .slice none 0 0, .slice none 0 0, .slice none 0 0] (firstC x) [] _ w.heap.size ⟨_, _, _, [], [], [], rfl, OwL.nil _, ⟨⟨by simp [firstC, noChunk], .inl ⟨rfl, rfl⟩⟩, rfl⟩, ⟨⟨by simp [firstC, noChunk], .inl ⟨rfl, rfl⟩⟩, rfl⟩, rfl⟩ (Nw.nil _ _) HB.out.size).mono ?_
  rintro e w1 ⟨v', f, rfl, o1, n1, b1⟩
  have O1 := Lib.hid o1
  have N1 := Lib.hid n1
  replace HB := Lib.hid (HB.out.trans (b1.mono HB.out.size))
  clear o1 n1 b1 K k3 k6 k8
  go_wp2
  go_ret
  exact ⟨_, _, rfl, O1.out, N1.out, HB.out⟩

theorem shutC_e (w : World) (n : Int) : EFrmChunk w [] [.int .i64 7, .int .i64 0, .int .i64 0, .int .i64 n, .int .i64 0, .int .i64 0, .int .i64 0, .int .i64 0, .slice none 0 0, .slice none 0 0, .slice none 0 0] (shutC n) :=
  ⟨_, _, _, [], [], [], rfl, OwL.nil _, ⟨⟨by simp [shutC, noChunk], .inl ⟨rfl, rfl⟩⟩, rfl⟩, ⟨⟨by simp [shutC, noChunk], .inl ⟨rfl, rfl⟩⟩, rfl⟩, rfl⟩
theorem abortC_e (w : World) : EFrmChunk w [] [.int .i64 6, .int .i64 0, .int .i64 0, .int .i64 0, .int .i64 0, .int .i64 0, .int .i64 0, .int .i64 0, .slice none 0 0, .slice none 0 0, .slice none 0 0] abortC :=
  ⟨_, _, _, [], [], [], rfl, OwL.nil _, ⟨⟨by simp [abortC, noChunk], .inl ⟨rfl, rfl⟩⟩, rfl⟩, ⟨⟨by simp [abortC, noChunk], .inl ⟨rfl, rfl⟩⟩, rfl⟩, rfl⟩
set_option maxRecDepth 100000 in
set_option maxHeartbeats 1000000 in
theorem ascShut_n (x : DAscEnd) (vk : Value) (w : World) : Calls Try.prog 154 #[.agg #[.int .i64 x.xMe, .int .i64 x.xPeer, .int .i64 x.xSecret, .int .i64 x.xWish, .int .i64 x.xLast, .int .i64 x.xState, .int .i64 x.xTag, .int .i64 x.xPeerTag, .int .i64 x.xTsn, .int .i64 x.xPeerTsn, .int .i64 x.xStreams, vk, .int .i64 x.xTries, .int .i64 x.xLeft]] w fun e w' => ∃ v' f, e = .returned v' ∧ OwFrmPacketS w' f v' (frameF x x.xPeerTag (shutC x.xPeerTsn)) ∧ Nw w.heap.size w'.heap.size f ∧ Below w.heap.size w w' := by
  have HB := Lib.hid ((Below.refl w.heap.size w).alloc (Nat.le_refl _) (.cells #[.int .i64 x.xMe, .int .i64 x.xPeer, .int .i64 x.xSecret, .int .i64 x.xWish, .int .i64 x.xLast, .int .i64 x.xState, .int .i64 x.xTag, .int .i64 x.xPeerTag, .int .i64 x.xTsn, .int .i64 x.xPeerTsn, .int .i64 x.xStreams, vk, .int .i64 x.xTries, .int .i64 x.xLeft] 67))
  have K := Lib.hid (Blk.new (w := w) (b := w.heap.size) #[.int .i64 x.xMe, .int .i64 x.xPeer, .int .i64 x.xSecret, .int .i64 x.xWish, .int .i64 x.xLast, .int .i64 x.xState, .int .i64 x.xTag, .int .i64 x.xPeerTag, .int .i64 x.xTsn, .int .i64 x.xPeerTsn, .int .i64 x.xStreams, vk, .int .i64 x.xTries, .int .i64 x.xLeft] 67 rfl)
  have k7 := K.out.at (i := 7) rfl
  have k9 := K.out.at (i := 9) rfl
  go_enter Try.func154, Try.ntmps154
  go_wp2_with (refine wpList_load_blk rfl 67 (.tmp 1) rfl K.out rfl _ Try.underlying67 rfl isz_AscEnd ?_)
  refine (ascFrame_n x vk x.xPeerTag [.int .i64 7, .int .i64 0, .int .i64 0, .int .i64 x.xPeerTsn, .int .i64 0, .int .i64 0, .int .i64 0, .int .i64 0, .slice none 0 0, .slice none 0 0, .slice none 0 0] (shutC x.xPeerTsn) [] _ w.heap.size (shutC_e _ _) (Nw.nil _ _) HB.out.size).mono ?_
  rintro e w1 ⟨v', f, rfl, o1, n1, b1⟩
  have O1 := Lib.hid o1
  have N1 := Lib.hid n1
  replace HB := Lib.hid (HB.out.trans (b1.mono HB.out.size))
  clear o1 n1 b1 K k7 k9
  go_wp2
  go_ret
  exact ⟨_, _, rfl, O1.out, N1.out, HB.out⟩

set_option maxRecDepth 100000 in
set_option maxHeartbeats 1000000 in
theorem l6Copy_n (cs : List Value) (x : DAscEnd) (w : World) (h : FAscEnd w cs x) (hz : x.xCookie.length ≤ 1048576) : Calls Try.prog 144 #[.agg cs.toArray] w fun e w' => ∃ cs' f, e = .returned (.agg cs'.toArray) ∧ EAscEnd w' f cs' x ∧ Nw w.heap.size w'.heap.size f ∧ Below w.heap.size w w' := by
  obtain ⟨v11, rfl, h11⟩ := h
  have Hv := Lib.hid h11
  obtain ⟨A, c, rfl⟩ := h11.slice
  have hcap := h11.cap
  clear h11
  generalize hnb : x.xCookie.length = nb at *
  have Hnb := Lib.hid hnb
  clear hnb
  have K := Lib.hid ((Blk.new (w := w) (b := w.heap.size) #[.int .i64 x.xMe, .int .i64 x.xPeer, .int .i64 x.xSecret, .int .i64 x.xWish, .int .i64 x.xLast, .int .i64 x.xState, .int .i64 x.xTag, .int .i64 x.xPeerTag, .int .i64 x.xTsn, .int .i64 x.xPeerTsn, .int .i64 x.xStreams, .slice A nb c, .int .i64 x.xTries, .int .i64 x.xLeft] 67 rfl).alloc (.cells #[.int .i64 0, .int .i64 0, .int .i64 0, .int .i64 0, .int .i64 0, .int .i64 0, .int .i64 0, .int .i64 0, .int .i64 0, .int .i64 0, .int .i64 0, .slice none 0 0, .int .i64 0, .int .i64 0] 67))
  have R := Lib.hid (Blk.new (w := (w.alloc (.cells #[.int .i64 x.xMe, .int .i64 x.xPeer, .int .i64 x.xSecret, .int .i64 x.xWish, .int .i64 x.xLast, .int .i64 x.xState, .int .i64 x.xTag, .int .i64 x.xPeerTag, .int .i64 x.xTsn, .int .i64 x.xPeerTsn, .int .i64 x.xStreams, .slice A nb c, .int .i64 x.xTries, .int .i64 x.xLeft] 67))) (b := w.heap.size + 1) #[.int .i64 0, .int .i64 0, .int .i64 0, .int .i64 0, .int .i64 0, .int .i64 0, .int .i64 0, .int .i64 0, .int .i64 0, .int .i64 0, .int .i64 0, .slice none 0 0, .int .i64 0, .int .i64 0] 67 (by simp))
  have HB := Lib.hid (((Below.refl w.heap.size w).alloc (Nat.le_refl _) (.cells #[.int .i64 x.xMe, .int .i64 x.xPeer, .int .i64 x.xSecret, .int .i64 x.xWish, .int .i64 x.xLast, .int .i64 x.xState, .int .i64 x.xTag, .int .i64 x.xPeerTag, .int .i64 x.xTsn, .int .i64 x.xPeerTsn, .int .i64 x.xStreams, .slice A nb c, .int .i64 x.xTries, .int .i64 x.xLeft] 67)).alloc (by simp) (.cells #[.int .i64 0, .int .i64 0, .int .i64 0, .int .i64 0, .int .i64 0, .int .i64 0, .int .i64 0, .int .i64 0, .int .i64 0, .int .i64 0, .int .i64 0, .slice none 0 0, .int .i64 0, .int .i64 0] 67))
  go_enter Try.func144, Try.ntmps144
  have Hrd := Lib.hid (Hv.out.below (HB.out.alloc (by simp; omega) (.cells #[] 5)))
  have ho0 := OwB.lit (((w.alloc (.cells #[.int .i64 x.xMe, .int .i64 x.xPeer, .int .i64 x.xSecret, .int .i64 x.xWish, .int .i64 x.xLast, .int .i64 x.xState, .int .i64 x.xTag, .int .i64 x.xPeerTag, .int .i64 x.xTsn, .int .i64 x.xPeerTsn, .int .i64 x.xStreams, .slice A nb c, .int .i64 x.xTries, .int .i64 x.xLeft] 67)).alloc (.cells #[.int .i64 0, .int .i64 0, .int .i64 0, .int .i64 0, .int .i64 0, .int .i64 0, .int .i64 0, .int .i64 0, .int .i64 0, .int .i64 0, .int .i64 0, .slice none 0 0, .int .i64 0, .int .i64 0] 67))) #[] [] 0 (w.heap.size + 2) rfl rfl (by unfold maxLen; omega) (by simp)
  simp only [World.size_alloc] at ho0
  have HO := Lib.hid ho0
  clear ho0
  have k11' := (K.out.alloc (.cells #[] 5)).at (i := 11) rfl
  go_wp2_with (at_builtin; go_loud (refine wpList_appB (lo := w.heap.size + 2) _ rfl (.tmp 3) (.tmp 5) rfl rfl rfl HO.out Hrd.out ?_ ?_ ?_))
  · have := Hnb.out; first | omega | (simp; omega)
  intro v' w1 ho hk hg
  try rw [List.nil_append] at ho
  have b1 : Below (w.heap.size + 2) (((w.alloc (.cells #[.int .i64 x.xMe, .int .i64 x.xPeer, .int .i64 x.xSecret, .int .i64 x.xWish, .int .i64 x.xLast, .int .i64 x.xState, .int .i64 x.xTag, .int .i64 x.xPeerTag, .int .i64 x.xTsn, .int .i64 x.xPeerTsn, .int .i64 x.xStreams, .slice A nb c, .int .i64 x.xTries, .int .i64 x.xLeft] 67)).alloc (.cells #[.int .i64 0, .int .i64 0, .int .i64 0, .int .i64 0, .int .i64 0, .int .i64 0, .int .i64 0, .int .i64 0, .int .i64 0, .int .i64 0, .int .i64 0, .slice none 0 0, .int .i64 0, .int .i64 0] 67))) w1 := ((Below.refl _ _).alloc (by simp) _).grown hg (by simp <;> omega) (by simp [Value.ownBlock] <;> omega)
  have O := Lib.hid (show OwBy w1 v'.ownBlock.toList v' x.xCookie from ⟨row_mono ho.1 (Nat.zero_le _), rfl⟩)
  have Nn := Lib.hid (own_nw (lo := w.heap.size + 2) (fun k hk => ho.1.lt k hk))
  have Z := Lib.hid (show w.heap.size + 2 ≤ w1.heap.size by have := b1.size; simpa using this)
  replace K := Lib.hid (K.out.below b1 (by omega))
  replace R := Lib.hid (R.out.below b1 (by omega))
  replace HB := Lib.hid (HB.out.trans (b1.mono (by omega)))
  obtain ⟨B, d, rfl⟩ := ho.rd.slice
  rw [Hnb.out] at *
  clear ho hk hg b1 k11' HO Hrd
  generalize (Value.slice B nb d).ownBlock.toList = f at *
  have k11 := K.out.at (i := 11) rfl
  have y11 := K.out.frozen 11
  have K2 := Lib.hid (K.out.set (i := 11) (v := .slice B nb d) (by simp))
  have R2 := Lib.hid (R.out.far (b' := w.heap.size) (o := 11) (v := .slice B nb d) (by omega))
  have O2 := Lib.hid (O.out.set (g := w.heap.size) (o := 11) (u := .slice B nb d) (fun h => by have := (Nn.out.2 _ h).1; omega))
  have HB2 := Lib.hid (HB.out.setCell (p := ⟨w.heap.size, 11, none⟩) (by simp) (.slice B nb d))
  have Z2 := Lib.hid (size_set w1 ⟨w.heap.size, 11, none⟩ (.slice B nb d))
  simp only [List.set_cons_succ, List.set_cons_zero] at K2
  clear K R O HB
  go_wp2_with (first | (refine wpList_load_blk rfl 67 (.tmp 1) rfl K2.out rfl _ Try.underlying67 rfl isz_AscEnd ?_) | (refine wpList_store_blk rfl 67 (.tmp 2) (.tmp 8) rfl R2.out _ rfl rfl rfl isz_AscEnd (by kernel_rfl) ?_; intro w3 k3 f3 s3))
  have O3 := Lib.hid (O2.out.frl f3 (fun b hb => by have := (Nn.out.2 _ hb).1; simp; omega))
  have hsz : w1.heap.size = w3.heap.size := by rw [s3]; exact Z2.out.symm
  refine bodyPost_ret (v := .agg #[.int .i64 x.xMe, .int .i64 x.xPeer, .int .i64 x.xSecret, .int .i64 x.xWish, .int .i64 x.xLast, .int .i64 x.xState, .int .i64 x.xTag, .int .i64 x.xPeerTag, .int .i64 x.xTsn, .int .i64 x.xPeerTsn, .int .i64 x.xStreams, .slice B nb d, .int .i64 x.xTries, .int .i64 x.xLeft]) (results_rw1 rfl rfl (load_blk 67 k3 _ Try.underlying67 rfl isz_AscEnd)) rfl ?_
  exact ⟨_, rfl, f, ⟨_, _, rfl, O3.out, rfl⟩, Nn.out.mono (by omega) (by omega), below_frl1 HB2.out (Nat.le_refl _) f3 (by omega)⟩

set_option maxRecDepth 100000 in
set_option maxHeartbeats 1000000 in
theorem ascCopy_n (cs : List Value) (x : DAscEnd) (w : World) (h : FAscEnd w cs x) (hz : x.xCookie.length ≤ 1048576) : Calls Try.prog 150 #[.agg cs.toArray] w fun e w' => ∃ cs' f, e = .returned (.agg cs'.toArray) ∧ EAscEnd w' f cs' x ∧ Nw w.heap.size w'.heap.size f ∧ Below w.heap.size w w' := by
  obtain ⟨v11, rfl, h11⟩ := h
  have Hv := Lib.hid h11
  obtain ⟨A, c, rfl⟩ := h11.slice
  have hcap := h11.cap
  clear h11
  generalize hnb : x.xCookie.length = nb at *
  have Hnb := Lib.hid hnb
  clear hnb
  have K := Lib.hid ((Blk.new (w := w) (b := w.heap.size) #[.int .i64 x.xMe, .int .i64 x.xPeer, .int .i64 x.xSecret, .int .i64 x.xWish, .int .i64 x.xLast, .int .i64 x.xState, .int .i64 x.xTag, .int .i64 x.xPeerTag, .int .i64 x.xTsn, .int .i64 x.xPeerTsn, .int .i64 x.xStreams, .slice A nb c, .int .i64 x.xTries, .int .i64 x.xLeft] 67 rfl).alloc (.cells #[.int .i64 0, .int .i64 0, .int .i64 0, .int .i64 0, .int .i64 0, .int .i64 0, .int .i64 0, .int .i64 0, .int .i64 0, .int .i64 0, .int .i64 0, .slice none 0 0, .int .i64 0, .int .i64 0] 67))
  have R := Lib.hid (Blk.new (w := (w.alloc (.cells #[.int .i64 x.xMe, .int .i64 x.xPeer, .int .i64 x.xSecret, .int .i64 x.xWish, .int .i64 x.xLast, .int .i64 x.xState, .int .i64 x.xTag, .int .i64 x.xPeerTag, .int .i64 x.xTsn, .int .i64 x.xPeerTsn, .int .i64 x.xStreams, .slice A nb c, .int .i64 x.xTries, .int .i64 x.xLeft] 67))) (b := w.heap.size + 1) #[.int .i64 0, .int .i64 0, .int .i64 0, .int .i64 0, .int .i64 0, .int .i64 0, .int .i64 0, .int .i64 0, .int .i64 0, .int .i64 0, .int .i64 0, .slice none 0 0, .int .i64 0, .int .i64 0] 67 (by simp))
  have HB := Lib.hid (((Below.refl w.heap.size w).alloc (Nat.le_refl _) (.cells #[.int .i64 x.xMe, .int .i64 x.xPeer, .int .i64 x.xSecret, .int .i64 x.xWish, .int .i64 x.xLast, .int .i64 x.xState, .int .i64 x.xTag, .int .i64 x.xPeerTag, .int .i64 x.xTsn, .int .i64 x.xPeerTsn, .int .i64 x.xStreams, .slice A nb c, .int .i64 x.xTries, .int .i64 x.xLeft] 67)).alloc (by simp) (.cells #[.int .i64 0, .int .i64 0, .int .i64 0, .int .i64 0, .int .i64 0, .int .i64 0, .int .i64 0, .int .i64 0, .int .i64 0, .int .i64 0, .int .i64 0, .slice none 0 0, .int .i64 0, .int .i64 0] 67))
  have Z0 := Lib.hid (show ((w.alloc (.cells #[.int .i64 x.xMe, .int .i64 x.xPeer, .int .i64 x.xSecret, .int .i64 x.xWish, .int .i64 x.xLast, .int .i64 x.xState, .int .i64 x.xTag, .int .i64 x.xPeerTag, .int .i64 x.xTsn, .int .i64 x.xPeerTsn, .int .i64 x.xStreams, .slice A nb c, .int .i64 x.xTries, .int .i64 x.xLeft] 67)).alloc (.cells #[.int .i64 0, .int .i64 0, .int .i64 0, .int .i64 0, .int .i64 0, .int .i64 0, .int .i64 0, .int .i64 0, .int .i64 0, .int .i64 0, .int .i64 0, .slice none 0 0, .int .i64 0, .int .i64 0] 67)).heap.size = w.heap.size + 2 by simp)
  have k11' := K.out.at (i := 11) rfl
  go_enter Try.func150, Try.ntmps150
  go_wp2_with fail
  refine (ascOwn_n _ x.xCookie _ (Hv.out.below HB.out) (by rw [Hnb.out]; exact hz)).mono ?_
  rintro e w1 ⟨v', f, rfl, o1, n1, b1⟩
  have O := Lib.hid o1
  have Nn := Lib.hid (n1.mono (lo' := w.heap.size + 2) (by have := Z0.out; omega) (Nat.le_refl _))
  have Z := Lib.hid (show w.heap.size + 2 ≤ w1.heap.size by have := b1.size; have := Z0.out; omega)
  replace K := Lib.hid (K.out.keep b1)
  replace R := Lib.hid (R.out.keep b1)
  replace HB := Lib.hid (HB.out.trans (b1.mono HB.out.size))
  obtain ⟨B, d, rfl⟩ := o1.rd.slice
  rw [Hnb.out] at *
  clear o1 n1 b1 k11'
  have k11 := K.out.at (i := 11) rfl
  have y11 := K.out.frozen 11
  have K2 := Lib.hid (K.out.set (i := 11) (v := .slice B nb d) (by simp))
  have R2 := Lib.hid (R.out.far (b' := w.heap.size) (o := 11) (v := .slice B nb d) (by omega))
  have O2 := Lib.hid (O.out.set (g := w.heap.size) (o := 11) (u := .slice B nb d) (fun h => by have := (Nn.out.2 _ h).1; omega))
  have HB2 := Lib.hid (HB.out.setCell (p := ⟨w.heap.size, 11, none⟩) (by simp) (.slice B nb d))
  have Z2 := Lib.hid (size_set w1 ⟨w.heap.size, 11, none⟩ (.slice B nb d))
  simp only [List.set_cons_succ, List.set_cons_zero] at K2
  clear K R O HB
  go_wp2_with (first | (refine wpList_load_blk rfl 67 (.tmp 1) rfl K2.out rfl _ Try.underlying67 rfl isz_AscEnd ?_) | (refine wpList_store_blk rfl 67 (.tmp 2) (.tmp 7) rfl R2.out _ rfl rfl rfl isz_AscEnd (by kernel_rfl) ?_; intro w3 k3 f3 s3))
  have O3 := Lib.hid (O2.out.frl f3 (fun b hb => by have := (Nn.out.2 _ hb).1; simp; omega))
  have hsz : w1.heap.size = w3.heap.size := by rw [s3]; exact Z2.out.symm
  refine bodyPost_ret (v := .agg #[.int .i64 x.xMe, .int .i64 x.xPeer, .int .i64 x.xSecret, .int .i64 x.xWish, .int .i64 x.xLast, .int .i64 x.xState, .int .i64 x.xTag, .int .i64 x.xPeerTag, .int .i64 x.xTsn, .int .i64 x.xPeerTsn, .int .i64 x.xStreams, .slice B nb d, .int .i64 x.xTries, .int .i64 x.xLeft]) (results_rw1 rfl rfl (load_blk 67 k3 _ Try.underlying67 rfl isz_AscEnd)) rfl ?_
  exact ⟨_, rfl, f, ⟨_, _, rfl, O3.out, rfl⟩, Nn.out.mono (by omega) (by omega), below_frl1 HB2.out (Nat.le_refl _) f3 (by omega)⟩

set_option maxRecDepth 100000 in
set_option maxHeartbeats 1000000 in
theorem l6Closed_n (x : DAscEnd) (vk : Value) (w : World) : Calls Try.prog 146 #[.agg #[.int .i64 x.xMe, .int .i64 x.xPeer, .int .i64 x.xSecret, .int .i64 x.xWish, .int .i64 x.xLast, .int .i64 x.xState, .int .i64 x.xTag, .int .i64 x.xPeerTag, .int .i64 x.xTsn, .int .i64 x.xPeerTsn, .int .i64 x.xStreams, vk, .int .i64 x.xTries, .int .i64 x.xLeft]] w fun e w' => ∃ cs' f, e = .returned (.agg cs'.toArray) ∧ EAscEnd w' f cs' (bareF x) ∧ Nw w.heap.size w'.heap.size f ∧ Below w.heap.size w w' := by
  have K := Lib.hid ((Blk.new (w := w) (b := w.heap.size) #[.int .i64 x.xMe, .int .i64 x.xPeer, .int .i64 x.xSecret, .int .i64 x.xWish, .int .i64 x.xLast, .int .i64 x.xState, .int .i64 x.xTag, .int .i64 x.xPeerTag, .int .i64 x.xTsn, .int .i64 x.xPeerTsn, .int .i64 x.xStreams, vk, .int .i64 x.xTries, .int .i64 x.xLeft] 67 rfl).alloc (.cells #[.int .i64 0, .int .i64 0, .int .i64 0, .int .i64 0, .int .i64 0, .int .i64 0, .int .i64 0, .int .i64 0, .int .i64 0, .int .i64 0, .int .i64 0, .slice none 0 0, .int .i64 0, .int .i64 0] 67))
  have R := Lib.hid ((Blk.new (w := (w.alloc (.cells #[.int .i64 x.xMe, .int .i64 x.xPeer, .int .i64 x.xSecret, .int .i64 x.xWish, .int .i64 x.xLast, .int .i64 x.xState, .int .i64 x.xTag, .int .i64 x.xPeerTag, .int .i64 x.xTsn, .int .i64 x.xPeerTsn, .int .i64 x.xStreams, vk, .int .i64 x.xTries, .int .i64 x.xLeft] 67))) (b := w.heap.size + 1) #[.int .i64 0, .int .i64 0, .int .i64 0, .int .i64 0, .int .i64 0, .int .i64 0, .int .i64 0, .int .i64 0, .int .i64 0, .int .i64 0, .int .i64 0, .slice none 0 0, .int .i64 0, .int .i64 0] 67 (by simp)).alloc (.cells #[] 5))
  have HB := Lib.hid ((((Below.refl w.heap.size w).alloc (Nat.le_refl _) (.cells #[.int .i64 x.xMe, .int .i64 x.xPeer, .int .i64 x.xSecret, .int .i64 x.xWish, .int .i64 x.xLast, .int .i64 x.xState, .int .i64 x.xTag, .int .i64 x.xPeerTag, .int .i64 x.xTsn, .int .i64 x.xPeerTsn, .int .i64 x.xStreams, vk, .int .i64 x.xTries, .int .i64 x.xLeft] 67)).alloc (by simp) (.cells #[.int .i64 0, .int .i64 0, .int .i64 0, .int .i64 0, .int .i64 0, .int .i64 0, .int .i64 0, .int .i64 0, .int .i64 0, .int .i64 0, .int .i64 0, .slice none 0 0, .int .i64 0, .int .i64 0] 67)).alloc (by simp; omega) (.cells #[] 5))
  have Ho := Lib.hid (show OwBy ((((w.alloc (.cells #[.int .i64 x.xMe, .int .i64 x.xPeer, .int .i64 x.xSecret, .int .i64 x.xWish, .int .i64 x.xLast, .int .i64 x.xState, .int .i64 x.xTag, .int .i64 x.xPeerTag, .int .i64 x.xTsn, .int .i64 x.xPeerTsn, .int .i64 x.xStreams, vk, .int .i64 x.xTries, .int .i64 x.xLeft] 67)).alloc (.cells #[.int .i64 0, .int .i64 0, .int .i64 0, .int .i64 0, .int .i64 0, .int .i64 0, .int .i64 0, .int .i64 0, .int .i64 0, .int .i64 0, .int .i64 0, .slice none 0 0, .int .i64 0, .int .i64 0] 67)).alloc (.cells #[] 5))) [w.heap.size + 1 + 1] (.slice (some ⟨w.heap.size + 1 + 1, 0, none⟩) 0 0) [] from ⟨⟨by simp, .inr ⟨_, 0, #[], rfl, Nat.zero_le _, by have h := heap_alloc_new (((w.alloc (.cells #[.int .i64 x.xMe, .int .i64 x.xPeer, .int .i64 x.xSecret, .int .i64 x.xWish, .int .i64 x.xLast, .int .i64 x.xState, .int .i64 x.xTag, .int .i64 x.xPeerTag, .int .i64 x.xTsn, .int .i64 x.xPeerTsn, .int .i64 x.xStreams, vk, .int .i64 x.xTries, .int .i64 x.xLeft] 67)).alloc (.cells #[.int .i64 0, .int .i64 0, .int .i64 0, .int .i64 0, .int .i64 0, .int .i64 0, .int .i64 0, .int .i64 0, .int .i64 0, .int .i64 0, .int .i64 0, .slice none 0 0, .int .i64 0, .int .i64 0] 67))) (.cells #[] 5); simpa using h, by simp, by unfold maxLen; omega, by simp, by simp⟩⟩, rfl⟩)
  have k0 := K.out.at (i := 0) rfl
  have k1 := K.out.at (i := 1) rfl
  have k2 := K.out.at (i := 2) rfl
  have k3 := K.out.at (i := 3) rfl
  have k4 := K.out.at (i := 4) rfl
  go_enter Try.func146, Try.ntmps146
  go_wp2_with (refine wpList_store_blk rfl 67 (.tmp 2) (.tmp 14) rfl R.out _ rfl rfl rfl isz_AscEnd (by kernel_rfl) ?_; intro w3 kk3 f3 s3)
  refine bodyPost_ret (v := .agg #[.int .i64 x.xMe, .int .i64 x.xPeer, .int .i64 x.xSecret, .int .i64 x.xWish, .int .i64 x.xLast, .int .i64 0, .int .i64 0, .int .i64 0, .int .i64 0, .int .i64 0, .int .i64 0, .slice (some ⟨w.heap.size + 1 + 1, 0, none⟩) 0 0, .int .i64 0, .int .i64 0]) (results_rw1 rfl rfl (load_blk 67 kk3 _ Try.underlying67 rfl isz_AscEnd)) rfl ?_
  exact ⟨_, rfl, [w.heap.size + 1 + 1], ⟨_, _, rfl, Ho.out.frl f3 (by simp), rfl⟩, ⟨by simp, by simp only [List.mem_singleton, forall_eq]; rw [s3]; simp; omega⟩, below_frl1 HB.out (Nat.le_refl _) f3 (by omega)⟩

set_option maxRecDepth 100000 in
set_option maxHeartbeats 1000000 in
theorem ascBare_n (x : DAscEnd) (vk : Value) (w : World) : Calls Try.prog 152 #[.agg #[.int .i64 x.xMe, .int .i64 x.xPeer, .int .i64 x.xSecret, .int .i64 x.xWish, .int .i64 x.xLast, .int .i64 x.xState, .int .i64 x.xTag, .int .i64 x.xPeerTag, .int .i64 x.xTsn, .int .i64 x.xPeerTsn, .int .i64 x.xStreams, vk, .int .i64 x.xTries, .int .i64 x.xLeft]] w fun e w' => ∃ cs' f, e = .returned (.agg cs'.toArray) ∧ EAscEnd w' f cs' (bareF x) ∧ Nw w.heap.size w'.heap.size f ∧ Below w.heap.size w w' := by
  have K := Lib.hid ((Blk.new (w := w) (b := w.heap.size) #[.int .i64 x.xMe, .int .i64 x.xPeer, .int .i64 x.xSecret, .int .i64 x.xWish, .int .i64 x.xLast, .int .i64 x.xState, .int .i64 x.xTag, .int .i64 x.xPeerTag, .int .i64 x.xTsn, .int .i64 x.xPeerTsn, .int .i64 x.xStreams, vk, .int .i64 x.xTries, .int .i64 x.xLeft] 67 rfl).alloc (.cells #[.int .i64 0, .int .i64 0, .int .i64 0, .int .i64 0, .int .i64 0, .int .i64 0, .int .i64 0, .int .i64 0, .int .i64 0, .int .i64 0, .int .i64 0, .slice none 0 0, .int .i64 0, .int .i64 0] 67))
  have R := Lib.hid ((Blk.new (w := (w.alloc (.cells #[.int .i64 x.xMe, .int .i64 x.xPeer, .int .i64 x.xSecret, .int .i64 x.xWish, .int .i64 x.xLast, .int .i64 x.xState, .int .i64 x.xTag, .int .i64 x.xPeerTag, .int .i64 x.xTsn, .int .i64 x.xPeerTsn, .int .i64 x.xStreams, vk, .int .i64 x.xTries, .int .i64 x.xLeft] 67))) (b := w.heap.size + 1) #[.int .i64 0, .int .i64 0, .int .i64 0, .int .i64 0, .int .i64 0, .int .i64 0, .int .i64 0, .int .i64 0, .int .i64 0, .int .i64 0, .int .i64 0, .slice none 0 0, .int .i64 0, .int .i64 0] 67 (by simp)))
  have HB := Lib.hid (((Below.refl w.heap.size w).alloc (Nat.le_refl _) (.cells #[.int .i64 x.xMe, .int .i64 x.xPeer, .int .i64 x.xSecret, .int .i64 x.xWish, .int .i64 x.xLast, .int .i64 x.xState, .int .i64 x.xTag, .int .i64 x.xPeerTag, .int .i64 x.xTsn, .int .i64 x.xPeerTsn, .int .i64 x.xStreams, vk, .int .i64 x.xTries, .int .i64 x.xLeft] 67)).alloc (by simp) (.cells #[.int .i64 0, .int .i64 0, .int .i64 0, .int .i64 0, .int .i64 0, .int .i64 0, .int .i64 0, .int .i64 0, .int .i64 0, .int .i64 0, .int .i64 0, .slice none 0 0, .int .i64 0, .int .i64 0] 67))
  have k0 := K.out.at (i := 0) rfl
  have k1 := K.out.at (i := 1) rfl
  have k2 := K.out.at (i := 2) rfl
  have k3 := K.out.at (i := 3) rfl
  have k4 := K.out.at (i := 4) rfl
  go_enter Try.func152, Try.ntmps152
  go_wp2_with (refine wpList_store_blk rfl 67 (.tmp 2) (.tmp 13) rfl R.out _ rfl rfl rfl isz_AscEnd (by kernel_rfl) ?_; intro w3 kk3 f3 s3)
  refine bodyPost_ret (v := .agg #[.int .i64 x.xMe, .int .i64 x.xPeer, .int .i64 x.xSecret, .int .i64 x.xWish, .int .i64 x.xLast, .int .i64 0, .int .i64 0, .int .i64 0, .int .i64 0, .int .i64 0, .int .i64 0, .slice none 0 0, .int .i64 0, .int .i64 0]) (results_rw1 rfl rfl (load_blk 67 kk3 _ Try.underlying67 rfl isz_AscEnd)) rfl ?_
  exact ⟨_, rfl, [], EAscEnd.nil _ (bareF x) rfl, Nw.nil _ _, below_frl1 HB.out (Nat.le_refl _) f3 (by omega)⟩

set_option maxHeartbeats 400000 in
theorem l6None_n (w : World) : Calls Try.prog 143 #[] w fun e w' => ∃ v' f, e = .returned v' ∧ OwFrmPacketS w' f v' [] ∧ Nw w.heap.size w'.heap.size f ∧ Below w.heap.size w w' := by
  go_enter Try.func143, Try.ntmps143
  go_wp2
  go_ret
  exact ⟨_, [w.heap.size], rfl, OwL.lit0 w, ⟨by simp, by simp⟩, (Below.refl _ _).alloc (Nat.le_refl _) _⟩

set_option maxRecDepth 100000 in
set_option maxHeartbeats 1000000 in
theorem ascNewTag_l (x : DAscEnd) (vk : Value) (t : Int) (w : World) : Calls Try.prog 161 #[.agg #[.int .i64 x.xMe, .int .i64 x.xPeer, .int .i64 x.xSecret, .int .i64 x.xWish, .int .i64 x.xLast, .int .i64 x.xState, .int .i64 x.xTag, .int .i64 x.xPeerTag, .int .i64 x.xTsn, .int .i64 x.xPeerTsn, .int .i64 x.xStreams, vk, .int .i64 x.xTries, .int .i64 x.xLeft], .int .i64 t] w fun e w' => e = .returned (.bool (tagA x.xLast t)) ∧ Below w.heap.size w w' := by
  have HB := Lib.hid ((Below.refl w.heap.size w).alloc (Nat.le_refl _) (.cells #[.int .i64 x.xMe, .int .i64 x.xPeer, .int .i64 x.xSecret, .int .i64 x.xWish, .int .i64 x.xLast, .int .i64 x.xState, .int .i64 x.xTag, .int .i64 x.xPeerTag, .int .i64 x.xTsn, .int .i64 x.xPeerTsn, .int .i64 x.xStreams, vk, .int .i64 x.xTries, .int .i64 x.xLeft] 67))
  have K := Lib.hid (Blk.new (w := w) (b := w.heap.size) #[.int .i64 x.xMe, .int .i64 x.xPeer, .int .i64 x.xSecret, .int .i64 x.xWish, .int .i64 x.xLast, .int .i64 x.xState, .int .i64 x.xTag, .int .i64 x.xPeerTag, .int .i64 x.xTsn, .int .i64 x.xPeerTsn, .int .i64 x.xStreams, vk, .int .i64 x.xTries, .int .i64 x.xLeft] 67 rfl)
  have k4 := K.out.at (i := 4) rfl
  rcases h : inB t 0 4294967295 with _ | _
  all_goals
    go_enter Try.func161, Try.ntmps161
    go_wp2_with (go_at_call 151; refine (frmLong_any _ _).mono ?_; rintro e w' ⟨rfl, rfl⟩; rw [h])
    go_ret
    exact ⟨ret_bool (by first | (simp [tagA, h]; done) | (rw [Bool.eq_iff_iff]; simp [tagA, h])), HB.out⟩
end Go.Proofs.Ythdjjgbjemaabaa
